import PyProof.Rows.All
import Wide.All
import OpenK.AllK
import Wide.FinOn
import Lean
import PyProof.EqAt
import PyProof.EqKinds
import PyProof.TupleCall
import PyProof.AttrMissHeap
import KE.KDictOf
import PyProof.ConsumeWalk
import PyProof.ZipIter
import PyProof.EnumMake
import KE.KEqDict
import KE.KDictSum
import KE.KItemsList
import PyProof.FactsAll.tuple_2
import PyProof.FactsAll.zip_1
import PyProof.ListMulRoad
import PyProof.ListRange
import PyProof.NeKinds
import PyProof.Rows.SortShell
import PySem.Challenge.RW_neverstuck_k46_further_locks
set_option Elab.async false
set_option linter.all false
set_option maxRecDepth 100000
set_option maxHeartbeats 4000000
noncomputable section
namespace L2
open PySem PySem.Spec PyProof.Rows
abbrev Key:=Sum Int Str
def kd:Key→Value→Bool
 | .inl k,v=>Value.isInt k v
 | .inr x,v=>Value.isStrOf x v
def yS (w:World):Key→Int
 | .inl k=>hashInt k
 | .inr x=>hashStr w x
theorem bx:∀{k:Key} {v:Value},kd k v=true→(∃i t,k=Sum.inl i∧v=Value.int i t)∨(∃x t,k=Sum.inr x∧v=Value.str x t)
 | .inl i,v,h=>by
  obtain ⟨t,e⟩:=Value.isInt_shape (k:=i) (v:=v) h
  exact .inl ⟨i,t,rfl,e⟩
 | .inr x,v,h=>by
  obtain ⟨t,e⟩:=Value.isStrOf_shape (x:=x) (v:=v) h
  exact .inr ⟨x,t,rfl,e⟩
theorem pE (i:Int) (t:Tok):kd (.inl i) (.int i t)=true:=by simp [kd,Value.isInt]
theorem pD (x:Str) (t:Tok):kd (.inr x) (.str x t)=true:=by simp [kd,Value.isStrOf]
theorem vY (a b:Int):decide ((Sum.inl a:Key)=Sum.inl b)=(a==b):=by
 by_cases e:a=b
 ·subst e;simp
 ·have h:¬(Sum.inl a:Key)=Sum.inl b:=fun q=>e (Sum.inl.inj q)
  rw [decide_eq_false h]
  exact (beq_eq_false_iff_ne.mpr e).symm
theorem vV (a b:Str):decide ((Sum.inr a:Key)=Sum.inr b)=decide (a=b):=by
 by_cases e:a=b
 ·subst e;simp
 ·have h:¬(Sum.inr a:Key)=Sum.inr b:=fun q=>e (Sum.inr.inj q)
  rw [decide_eq_false h,decide_eq_false e]
theorem vX (a:Int) (b:Str):decide ((Sum.inl a:Key)=Sum.inr b)=false:=decide_eq_false (fun q=>nomatch q)
theorem vW (a:Str) (b:Int):decide ((Sum.inr a:Key)=Sum.inl b)=false:=decide_eq_false (fun q=>nomatch q)
def aW (prog:Program) (w:World):PySem.KeyKind prog w Key where
 is:=kd
 hash:=yS w
 inj:=fun v a b ha hb=>by
  rcases bx ha with ⟨i,t,rfl,rfl⟩ | ⟨x,t,rfl,rfl⟩
  ·rcases bx hb with ⟨j,u,rfl,e⟩ | ⟨y,u,rfl,e⟩
   ·injection e with e1 _;rw [e1]
   ·exact nomatch e
  ·rcases bx hb with ⟨j,u,rfl,e⟩ | ⟨y,u,rfl,e⟩
   ·exact nomatch e
   ·injection e with e1 _;rw [e1]
 byValue:=fun k v h=>by
  rcases bx h with ⟨i,t,rfl,rfl⟩ | ⟨x,t,rfl,rfl⟩ <;> rfl
 pyHash:=fun hv h=>by
  rcases bx hv with ⟨i,t,rfl,rfl⟩ | ⟨x,t,rfl,rfl⟩
  ·exact wpAny_pyHash_int h
  ·exact wpAny_pyHash_str h
 eqBool:=fun hu hv h=>by
  rcases bx hu with ⟨i,t,rfl,rfl⟩ | ⟨x,t,rfl,rfl⟩
  ·rcases bx hv with ⟨j,u,rfl,rfl⟩ | ⟨y,u,rfl,rfl⟩
   ·rw [vY] at h;exact wpAny_eqBool_int h
   ·rw [vX] at h;exact SeqAt.EqAt.int_str i t y u _ _ _ _ h
  ·rcases bx hv with ⟨j,u,rfl,rfl⟩ | ⟨y,u,rfl,rfl⟩
   ·rw [vW] at h;exact SeqAt.EqAt.str_int x t j u _ _ _ _ h
   ·rw [vV] at h;exact wpAny_eqBool_str h
 «strs»:=fun k x t v h=>by
  rcases bx h with ⟨i,u,rfl,e⟩ | ⟨y,u,rfl,e⟩
  ·exact nomatch e
  ·injection e with e1 _
   subst e1
   cases v <;> rfl
theorem mK (prog:Program) (w:World) (i:Int) (t:Tok):(aW prog w).is (.inl i) (.int i t)=true:=pE i t
theorem mJ (prog:Program) (w:World) (x:Str) (t:Tok):(aW prog w).is (.inr x) (.str x t)=true:=pD x t
end L2
namespace L2
open PySem PySem.Spec PyProof.Rows
inductive V where
 | non | bl (b:Bool) | int (i:Int) | str (x:Str) | byt (b:Array UInt8) | flt (b:UInt64) | ref (a:Addr) | ty (n:String)
 deriving DecidableEq
def RelV:V→Value→Prop
 | .non,u=>u=Value.none
 | .bl b,u=>u=Value.bool b
 | .int i,u=>∃t,u=Value.int i t
 | .str x,u=>∃t,u=Value.str x t
 | .byt b,u=>∃t,u=Value.bytes b t
 | .flt b,u=>∃t,u=Value.float b t
 | .ref a,u=>u=Value.ref a
 | .ty n,u=>u=Value.type n
abbrev Vals:List V→List Value→Prop:=Paired RelV
theorem Vals.length {xs:List V} {us:List Value} (r:Vals xs us):xs.length=us.length:=Paired.length r
theorem Vals.get:∀{xs:List V} {us:List Value} {i:Nat} {x:V},Vals xs us→xs[i]?=some x→∃u,us[i]?=some u∧RelV x u
 | _,_,_,_,.nil,e=>by simp at e
 | _,_,0,_,.cons r _,e=>by simp at e;subst e;exact ⟨_,rfl,r⟩
 | _,_,i+1,x,.cons _ t,e=>by
  obtain ⟨u,h1,h2⟩:=Vals.get (i:=i) (x:=x) t (by simpa using e)
  exact ⟨u,by simpa using h1,h2⟩
theorem Vals.set {x:V} {u:Value} (r:RelV x u):∀{xs:List V} {us:List Value} (i:Nat),Vals xs us→Vals (xs.set i x) (us.set i u)
 | _,_,_,.nil=>.nil
 | _,_,0,.cons _ t=>.cons r t
 | _,_,i+1,.cons q t=>.cons q (Vals.set r i t)
theorem Vals.append:∀{xs ys:List V} {us ws:List Value},Vals xs us→Vals ys ws→Vals (xs++ys) (us++ws)
 | _,_,_,_,.nil,s=>s
 | _,_,_,_,.cons r t,s=>.cons r (Vals.append t s)
theorem Vals.take:∀{xs:List V} {us:List Value} (n:Nat),Vals xs us→Vals (xs.take n) (us.take n)
 | _,_,0,_=>.nil
 | _,_,_+1,.nil=>.nil
 | _,_,n+1,.cons r t=>.cons r (Vals.take n t)
theorem Vals.drop:∀{xs:List V} {us:List Value} (n:Nat),Vals xs us→Vals (xs.drop n) (us.drop n)
 | _,_,0,r=>r
 | _,_,_+1,.nil=>.nil
 | _,_,n+1,.cons _ t=>Vals.drop n t
def jo:Option V→Option Value→Prop
 | some v,some u=>RelV v u
 | none,none=>True
 | _,_=>False
def KV {κ:Type}:List (κ×V)→List (κ×Value)→Prop:=Paired fun (p:κ×V) (q:κ×Value)=>p.1=q.1∧RelV p.2 q.2
def kV:Key→V
 | .inl i=>.int i
 | .inr x=>.str x
inductive HO where
 | lst (xs:List V)
 | tup (xs:List V)
 | dK (kvs:List (Key×V)) | dT (kvs:List (List Key×V))
 | set (S:Int→Bool) (n:Nat)
 | ins (C dx:Addr) (fs:List (Str×V))
 | own (x:Addr)
 | xd (fs:List (Str×V))
 | met (f x:Addr)
 | rng (lo hi:Int)
 | frz (o:Obj) (u:HO)
 | tbl (ps:Array Value)
 | ext (φ:Heap→Prop)
abbrev Hp:=Addr→Option HO
def upd (H:Hp) (a:Addr) (o:HO):Hp:=fun b=>if b=a then some o else H b
theorem aN {H:Hp} {a:Addr} {o:HO}:upd H a o a=some o:=by unfold upd;rw [if_pos rfl]
theorem av {H:Hp} {a b:Addr} {o:HO} (h:b≠a):upd H a o b=H b:=by unfold upd;rw [if_neg h]
theorem kE {H:Hp} {a:Addr} {o u:HO}:upd (upd H a o) a u=upd H a u:=by
 funext b;unfold upd;split <;> rfl
theorem xP {H:Hp} {a b:Addr} {o u:HO} (h:H a=some o) (h':H b=some u) (d:o≠u):a≠b:=by
 intro e;subst e;rw [h] at h';exact d (Option.some.inj h')
theorem az {H:Hp} {a b:Addr} {o:HO} (h:H a=some o) (h':H b=none):a≠b:=by
 intro e;subst e;rw [h] at h';cases h'
def jM (h:Heap) (a:Addr) (items:Array Value):Prop:=∃o,h.get? a=some o∧o.cls=.type "tuple"∧(∃n,o.data=.seq items n)∧o.dict=none
theorem jM.tup {h:Heap} {a:Addr} {items:Array Value} (x:jM h a items):IsTup h a items:=let ⟨o,e,c,d,_⟩:=x;⟨o,e,c,d⟩
theorem jM.new (h:Heap) (items:Array Value):jM (h.push {cls:=.type "tuple",data:=.seq items}) h.objs.size items:=⟨_,Heap.get?_push_size _ rfl,rfl,⟨_,rfl⟩,rfl⟩
section
variable (P:Program) (w:World)
def bB (H:Hp) (h:Heap) (a:Addr):HO→Prop
 | .lst xs=>xs.length≤sizeLine∧∃(its:List Value) (n:Nat),Vals xs its∧h.get? a=some {cls:=.type "list",data:=.seq its.toArray n}
 | .tup xs=>xs.length≤sizeLine∧∃its:List Value,Vals xs its∧jM h a its.toArray
 | .dK kvs=>kvs.length≤sizeLine∧(a==sysModules)=false∧∃vs,KV kvs vs∧h.DictOf (aW P w) a vs
 | .dT kvs=>kvs.length≤sizeLine∧(a==sysModules)=false∧∃xs:List (List Key×Addr×Value),
   Paired (fun (p:List Key×V) (q:List Key×Addr×Value)=>p.1=q.1∧H q.2.1=some (.tup (p.1.map kV))∧RelV p.2 q.2.2) kvs xs∧
   ∃o es ep,h.get? a=some o∧o.ExactDict∧o.data=.dict es ep∧es.toList=xs.map (entryOfKey (tupleKind (aW P w)))∧(xs.map (·.1)).Nodup
 | .set S n=>h.SetOf (intKind P w) a S n
 | .ins C dx fs=>H dx=some (.own a)∧fs.length≤1000∧dx≠a∧h.get? a=some (PySem.W.instObj C dx)∧
   ∃mA,h.Ns1 dx mA∧(∀f,jo (fs.lookup f) (mA f))∧PySem.Within mA (fs.map (·.1))
 | .own _=>∃o,h.get? a=some o
 | .xd fs=>∃mA,h.Ns1 a mA∧∀f,jo (fs.lookup f) (mA f)
 | .rng lo hi=>∃t u v,h.get? a=some {cls:=.type "range",data:=.fields #[.int lo t,.int hi u,.int 1 v]}
 | .frz o u=>h.get? a=some o∧bB H h a u
 | .tbl ps=>h.get? a=some {cls:=.none,data:=.fields ps}
 | .met f x=>h.get? a=some (PySem.W.methodObj (.ref f) (.ref x))
 | .ext φ=>φ h∧(∃o,h.get? a=some o)∧∀h1 h2:Heap,φ h1→(∀o,h1.get? a=some o→h2.get? a=some o)→φ h2
def HOk (H:Hp) (h:Heap):Prop:=∀a o,H a=some o→bB P w H h a o
end
section
variable {P:Program} {w:World} {H H':Hp} {h h':Heap} {a:Addr} {o:HO}
theorem bB.lt (x:bB P w H h a o):a < h.objs.size:=by
 cases o with
 | lst xs=>obtain ⟨_,_,_,_,e⟩:=x;exact Heap.lt_size e
 | tup xs=>obtain ⟨_,_,_,p⟩:=x;exact p.tup.lt
 | dK kvs=>obtain ⟨_,_,_,_,o,_,_,e,_⟩:=x;exact Heap.lt_size e
 | dT kvs=>obtain ⟨_,_,_,_,o,_,_,e,_⟩:=x;exact Heap.lt_size e
 | set S n=>obtain ⟨o,_,_,_,e,_⟩:=x;exact Heap.lt_size e
 | ins C dx fs=>obtain ⟨_,_,_,e,_⟩:=x;exact Heap.lt_size e
 | own y=>obtain ⟨_,e⟩:=x;exact Heap.lt_size e
 | xd fs=>obtain ⟨_,⟨_,_,_,e,_⟩,_⟩:=x;exact Heap.lt_size e
 | rng lo hi=>obtain ⟨_,_,_,e⟩:=x;exact Heap.lt_size e
 | frz ob u=>obtain ⟨e,_⟩:=x;exact Heap.lt_size e
 | tbl ps=>exact Heap.lt_size (show h.get? a=some _ from x)
 | met f y=>exact Heap.lt_size (show h.get? a=some _ from x)
 | ext φ=>obtain ⟨_,⟨_,e⟩,_⟩:=x;exact Heap.lt_size e
theorem Paired.vS {α β:Type} {F G:α→β→Prop}:∀{l₁:List α} {l₂:List β},Paired F l₁ l₂→(∀a b,F a b→G a b)→Paired G l₁ l₂
 | _,_,.nil,_=>.nil
 | _,_,.cons r t,f=>.cons (f _ _ r) (Paired.vS t f)
theorem bB.jr (x:bB P w H h a o) (k:∀b u,(b=a∨H b=some (.own a))→h.get? b=some u→h'.get? b=some u)
  (ho:∀b,H b=some (.own a)→H' b=some (.own a)) (ht:∀b xs,H b=some (.tup xs)→H' b=some (.tup xs)):bB P w H' h' a o:=by
 induction o with
 | lst xs=>obtain ⟨z,its,n,r,e⟩:=x;exact ⟨z,its,n,r,k _ _ (.inl rfl) e⟩
 | tup xs=>obtain ⟨z,its,r,ob,e,c⟩:=x;exact ⟨z,its,r,ob,k _ _ (.inl rfl) e,c⟩
 | dK kvs=>obtain ⟨z,y,vs,r,ob,es,ep,e,c⟩:=x;exact ⟨z,y,vs,r,ob,es,ep,k _ _ (.inl rfl) e,c⟩
 | dT kvs=>
  obtain ⟨z,y,xs,r,ob,es,ep,e,c⟩:=x
  exact ⟨z,y,xs,Paired.vS r fun p q z=>⟨z.1,ht _ _ z.2.1,z.2.2⟩,ob,es,ep,k _ _ (.inl rfl) e,c⟩
 | set S n=>obtain ⟨ob,es,ep,t,e,c⟩:=x;exact ⟨ob,es,ep,t,k _ _ (.inl rfl) e,c⟩
 | ins C dx fs=>
  obtain ⟨d,z,ne,e,mA,⟨od,es,ep,e2,c⟩,r⟩:=x
  exact ⟨ho _ d,z,ne,k _ _ (.inl rfl) e,mA,⟨od,es,ep,k _ _ (.inr d) e2,c⟩,r⟩
 | own y=>obtain ⟨ob,e⟩:=x;exact ⟨ob,k _ _ (.inl rfl) e⟩
 | xd fs=>obtain ⟨mA,⟨od,es,ep,e,c⟩,r⟩:=x;exact ⟨mA,⟨od,es,ep,k _ _ (.inl rfl) e,c⟩,r⟩
 | rng lo hi=>obtain ⟨t,u,v,e⟩:=x;exact ⟨t,u,v,k _ _ (.inl rfl) e⟩
 | frz ob u ih=>obtain ⟨e,q⟩:=x;exact ⟨k _ _ (.inl rfl) e,ih q⟩
 | tbl ps=>
  have e:h.get? a=some {cls:=.none,data:=.fields ps}:=x
  show h'.get? a=some {cls:=.none,data:=.fields ps}
  exact k a _ (.inl rfl) e
 | met f y=>
  have e:h.get? a=some (PySem.W.methodObj (.ref f) (.ref y)):=x
  show h'.get? a=some (PySem.W.methodObj (.ref f) (.ref y))
  exact k a _ (.inl rfl) e
 | ext φ=>obtain ⟨p,⟨o,e⟩,st⟩:=x;exact ⟨st _ _ p fun o q=>k _ _ (.inl rfl) q,⟨o,k _ _ (.inl rfl) e⟩,st⟩
theorem HOk.lt (x:HOk P w H h) (e:H a=some o):a < h.objs.size:=(x a o e).lt
theorem HOk.fresh (x:HOk P w H h) (e:h.objs.size≤a):H a=none:=by
 cases q:H a with
 | none=>rfl
 | some u=>exact absurd (Nat.lt_of_lt_of_le (x.lt q) e) (Nat.lt_irrefl _)
theorem HOk.kept (x:HOk P w H h) (k:∀b u,h.get? b=some u→h'.get? b=some u):HOk P w H h':=fun a o e=>
 (x a o e).jr (fun b u _ q=>k b u q) (fun _ q=>q) fun _ _ q=>q
theorem HOk.laid (x:HOk P w H h) (k:∀b u,h.get? b=some u→h'.get? b=some u) (hp:h.objs.size≤a) (new:bB P w (upd H a o) h' a o):HOk P w (upd H a o) h':=fun b u e=>by
 have hn:=x.fresh hp
 by_cases hb:b=a
 ·subst hb;rw [aN] at e;cases e;exact new
 ·rw [av hb] at e
  exact (x b u e).jr (fun c v _ q=>k c v q) (fun c q=>by rw [av (az q hn)];exact q) fun c xs q=>by rw [av (az q hn)];exact q
end
def Rd (H:Hp) (a:Addr) (u:HO):Prop:=H a=some u∨∃o,H a=some (.frz o u)
theorem Rd.ok {P:Program} {w:World} {H:Hp} {h:Heap} {a:Addr} {u:HO} (r:Rd H a u) (x:HOk P w H h):bB P w H h a u:=by
 rcases r with r | ⟨o,r⟩
 ·exact x a u r
 ·obtain ⟨_,q⟩:=x a _ r
  exact q
def Mut:Option HO→Prop
 | some (.lst _)=>True
 | some (.dK _)=>True
 | some (.dT _)=>True
 | some (.set _ _)=>True
 | some (.ins _ _ _)=>True
 | some (.ext _)=>True
 | _=>False
section
variable {P:Program} {w:World} {H:Hp} {h h':Heap} {x e:Addr} {o':HO}
theorem HOk.write (ok:HOk P w H h) (mu:Mut (H x)) (he:e=x∨H e=some (.own x)) (k:∀b u,b≠e→h.get? b=some u→h'.get? b=some u) (heo:∃u,h'.get? e=some u)
  (new:bB P w (upd H x o') h' x o'):HOk P w (upd H x o') h':=fun b u q=>by
 have nown:∀c y,H c=some (.own y)→c≠x:=fun c y r z=>by subst z;rw [r] at mu;exact mu
 have ntup:∀c xs,H c=some (.tup xs)→c≠x:=fun c xs r z=>by subst z;rw [r] at mu;exact mu
 by_cases hb:b=x
 ·subst hb;rw [aN] at q;cases q;exact new
 ·rw [av hb] at q
  by_cases hbe:b=e
  ·have q':H b=some (.own x):=by
    rcases he with z | z
    ·exact absurd (hbe.trans z) hb
    ·rw [hbe];exact z
   rw [q] at q';cases q'
   obtain ⟨v,hv⟩:=heo
   exact ⟨v,by rw [hbe];exact hv⟩
  ·refine (ok b u q).jr (fun c v hc r=>k c v ?_ r) (fun c r=>by rw [av (nown c b r)];exact r) fun c xs r=>by rw [av (ntup c xs r)];exact r
   rcases hc with rfl | hc
   ·exact hbe
   ·rintro rfl
    rcases he with z | z
    ·exact nown c b hc z
    ·rw [hc] at z;cases z;exact hb rfl
end
structure Un (fs ex:List Addr) (H H':Hp) (h h':Heap):Prop where
 keep:∀b o,h.get? b=some o→H b=none→b∉fs→b∉ex→h'.get? b=some o
 slot:∀b o,h.get? b=some o→H b=none→b∈fs→b∉ex→∃sl,h'.get? b=some {o with slots:=sl}
 free:∀b o,h.get? b=some o→H b=none→b∉ex→H' b=none
 there:∀b o,h.get? b=some o→b∉ex→∃o',h'.get? b=some o'
 tups:∀b xs,H b=some (.tup xs)→H' b=some (.tup xs)
 frzs:∀b o u,H b=some (.frz o u)→H' b=some (.frz o u)
 tbls:∀b ps,H b=some (.tbl ps)→∃more,H' b=some (.tbl (ps++more))
section
variable {fs fs' ex ex':List Addr} {H H1 H2:Hp} {h h1 h2 h':Heap} {a x e:Addr} {o:HO}
theorem Un.any (u:Un fs ex H H1 h h1) {b:Addr} {ob:Obj} (q:h.get? b=some ob) (n:H b=none) (hx:b∉ex):∃sl,h1.get? b=some {ob with slots:=sl}:=by
 by_cases hb:b∈fs
 ·exact u.slot b ob q n hb hx
 ·exact ⟨ob.slots,u.keep b ob q n hb hx⟩
theorem Un.kept (k:∀b u,h.get? b=some u→h'.get? b=some u):Un fs ex H H h h':=
 ⟨fun b ob q _ _ _=>k b ob q,fun b ob q _ _ _=>⟨ob.slots,k b ob q⟩,fun _ _ _ n _=>n,fun b ob q _=>⟨ob,k b ob q⟩,fun _ _ q=>q,fun _ _ _ q=>q,fun _ ps q=>⟨#[],by rw [q];simp⟩⟩
theorem Un.refl:Un fs ex H H h h:=Un.kept fun _ _ q=>q
theorem Un.laid (k:∀b u,h.get? b=some u→h'.get? b=some u) (hp:h.objs.size≤a) (hn:H a=none):Un fs ex H (upd H a o) h h' where
 keep:=fun b u q _ _ _=>k b u q
 slot:=fun b u q _ _ _=>⟨u.slots,k b u q⟩
 free:=fun b u q n _=>by rw [av (Nat.ne_of_lt (Nat.lt_of_lt_of_le (Heap.lt_size q) hp))];exact n
 there:=fun b u q _=>⟨u,k b u q⟩
 tups:=fun b xs q=>by rw [av (az q hn)];exact q
 frzs:=fun b u xs q=>by rw [av (az q hn)];exact q
 tbls:=fun b ps q=>⟨#[],by rw [av (az q hn),q];simp⟩
theorem Un.write (mu:Mut (H x)) (he:e=x∨H e=some (.own x)) (k:∀b u,b≠e→h.get? b=some u→h'.get? b=some u) (heo:∃u,h'.get? e=some u):Un fs ex H (upd H x o) h h':=by
 have hx:∀b,H b=none→b≠x:=fun b n z=>by subst z;rw [n] at mu;exact mu
 have hb:∀b,H b=none→b≠e:=fun b n z=>by
  subst z
  rcases he with r | r
  ·exact hx b n r
  ·rw [n] at r;cases r
 have hm:∀b u,H b=some u→¬Mut (some u)→b≠x:=fun b u q nm z=>by subst z;rw [q] at mu;exact nm mu
 refine ⟨fun b u q n _ _=>k b u (hb b n) q,fun b u q n _ _=>⟨u.slots,k b u (hb b n) q⟩,fun b u q n _=>by rw [av (hx b n)];exact n,fun b u q _=>?_,
  fun b xs q=>by rw [av (hm b _ q fun z=>z)];exact q,fun b u xs q=>by rw [av (hm b _ q fun z=>z)];exact q,fun b ps q=>⟨#[],by rw [av (hm b _ q fun z=>z),q];simp⟩⟩
 by_cases hbe:b=e
 ·subst hbe;exact heo
 ·exact ⟨u,k b u hbe q⟩
end
def trk (h:Heap) (H:Hp):List Addr:=(List.range h.objs.size).filter fun a=>(H a).isSome
def lF (h:Heap) (H:Hp):Heap:=PySem.W.hideAll h (trk h H)
theorem pH (h:Heap) (H:Hp):(lF h H).objs.size=h.objs.size:=PySem.W.hideAll_size _ _
theorem qR {h:Heap} {H:Hp} {b:Addr} {o:Obj} (e:h.get? b=some o) (n:H b=none):(lF h H).get? b=some o:=
 PySem.W.hideAll_get _ e fun hm=>by
  have q:(H b).isSome=true:=(List.mem_filter.mp hm).2
  rw [n] at q;simp at q
theorem tu {h:Heap} {H:Hp} {b:Addr} {o:Obj} (e:(lF h H).get? b=some o):h.get? b=some o∧H b=none:=by
 have e':h.get? b=some o:=PySem.W.of_hideAll (trk h H) e
 refine ⟨e',?_⟩
 cases q:H b with
 | none=>rfl
 | some x=>
  have hm:b∈trk h H:=List.mem_filter.mpr ⟨List.mem_range.mpr (Heap.lt_size e'),by simp [q]⟩
  have z:(lF h H).get? b=none:=PySem.W.hideAll_none (trk h H) hm
  rw [z] at e;cases e
end L2
namespace L2
open PySem PySem.Spec PyProof.Rows
structure Mod (K:PySem.W.Frag) (mg:Str→Option Value) (base:Heap):Prop where
 kin:K.In base
 glob:base.Ns mainGlobals mg
 blt:∃mb,base.Ns builtinsNs mb∧∀x:Str,x≠"__name__"→mb x=bootBuiltins x
 nolimit:base.NoLimit
structure Cx where
 prog:Program
 w:World
 K:PySem.W.Frag
 mg:Str→Option Value
 base:Heap
 A:Around
 N:List Str
 s₀:Shared
 H₀:Hp
 env:Env
 outer:List Env
 stack:List Env
 ex:List Addr
 fn:Str→Bool
 calm:Bool
 pn:List (Addr×Obj)
 xe:Value→Shared→Prop
def frs (l:List Env):List Addr:=l.filterMap (·.frame)
abbrev Cx.fs (X:Cx):List Addr:=frs X.outer
def Vis (sc:Scope) (x:Str):Prop:=sc.names.lookup x=some .local∨sc.names.lookup x=some .cell∨sc.names.lookup x=some .free
def Loc (sc:Scope) (x:Str):Prop:=sc.names.lookup x=some .local∨sc.names.lookup x=some .cell
def Look (env:Env) (h:Heap) (m:Str→Option Value) (x:Str) (u:Value):Prop:=
 (env.kindOf x=some .local∧m x=some u)∨((env.kindOf x=some .cell∨env.kindOf x=some .free)∧∃c,env.cells.lookup x=some c∧h.IsCell c (some u))
structure Cx.Ok (X:Cx):Prop where
 mod:Mod X.K X.mg X.base
 kind:X.env.scope.kind=.function
 glob:X.env.globals=mainGlobals
 blt:X.env.builtins=builtinsNs
 above:X.s₀.heap.objs.size≤X.env.locals
 inj:∀x y c,X.env.cells.lookup x=some c→X.env.cells.lookup y=some c→x=y
 has:∀x,(X.env.kindOf x=some .cell∨X.env.kindOf x=some .free)→∃c,X.env.cells.lookup x=some c
 cab:∀x c,X.fn x=true→X.env.cells.lookup x=some c→X.s₀.heap.objs.size≤c
 hd:X.calm=true→X.A.handled=none
 frames:X.A.frames=some X.stack
 stk:X.stack=X.outer∨(X.stack=X.env::X.outer∧X.env.frame=some X.env.locals)
 exf:∀b∈X.ex,b≠X.env.locals∧∀x c,X.env.cells.lookup x=some c→c≠b
 bs:∀b o,X.base.get? b=some o→X.s₀.heap.get? b=some o∧X.H₀ b=none
 bsz:X.base.objs.size≤X.s₀.heap.objs.size
 noex:∀b o,X.base.get? b=some o→b∉X.ex
 exfs:∀b∈X.ex,b∉X.fs
 i8:X.s₀.heap.FunFrames X.base X.outer
 frf:∀b∈X.fs,X.H₀ b=none
structure Inv (X:Cx) (pins:List (Addr×Obj)) (σ:List (Option V)) (H:Hp) (s:Shared):Prop where
 ok:X.Ok
 os:s.os=X.s₀.os
 bare:AllBare s.gens
 base:Un X.fs X.ex X.H₀ H X.s₀.heap s.heap
 loc:∃m,s.heap.Ns X.env.locals m∧∀(i:Nat) (x:Str) (v:V),X.N[i]?=some x→σ[i]?=some (some v)→Vis X.env.scope x→∃u,RelV v u∧Look X.env s.heap m x u
 cell:∀x c,X.env.cells.lookup x=some c→∃v,s.heap.IsCell c v
 free:H X.env.locals=none
 freeC:∀x c,X.env.cells.lookup x=some c→H c=none
 pin:∀p∈X.pn++pins,s.heap.get? p.1=some p.2∧H p.1=none∧p.1≠X.env.locals∧p.1∉X.fs∧∀v,p.2.data≠.cell v
 hok:HOk X.prog X.w H s.heap
 len:σ.length=X.N.length
section
variable {X:Cx} {pins:List (Addr×Obj)} {σ:List (Option V)} {H H':Hp} {s:Shared} {h':Heap}
theorem Cx.Ok.yM (ok:X.Ok) {b:Addr} {o:Obj} (e:X.base.get? b=some o):b∉X.fs:=fun hb=>by
 have:=(ok.i8.mem hb).1
 rw [e] at this;cases this
theorem Inv.bs (I:Inv X pins σ H s):∀b o,X.base.get? b=some o→s.heap.get? b=some o∧H b=none:=fun b o e=>
 ⟨I.base.keep b o (I.ok.bs b o e).1 (I.ok.bs b o e).2 (I.ok.yM e) (I.ok.noex b o e),I.base.free b o (I.ok.bs b o e).1 (I.ok.bs b o e).2 (I.ok.noex b o e)⟩
theorem Inv.bk (I:Inv X pins σ H s):∀b o,X.base.get? b=some o→s.heap.get? b=some o:=fun b o e=>(I.bs b o e).1
theorem Inv.mod (I:Inv X pins σ H s):Mod X.K X.mg X.base:=I.ok.mod
theorem Inv.kIn (I:Inv X pins σ H s):X.K.In s.heap:=I.ok.mod.kin.keeps I.bk
theorem Inv.lt (I:Inv X pins σ H s):X.env.locals < s.heap.objs.size:=let ⟨_,hn,_⟩:=I.loc;hn.lt
theorem Inv.sz (I:Inv X pins σ H s):X.s₀.heap.objs.size≤s.heap.objs.size:=Nat.le_trans I.ok.above (Nat.le_of_lt I.lt)
theorem Inv.yL (I:Inv X pins σ H s) {a:Addr} (h:s.heap.objs.size≤a):a∉X.fs:=fun hb=>by
 obtain ⟨_,o,ho,_⟩:=I.ok.i8.mem hb
 exact absurd (Nat.lt_of_lt_of_le (Heap.lt_size ho) (Nat.le_trans I.sz h)) (Nat.lt_irrefl _)
theorem Inv.cne (I:Inv X pins σ H s):∀x c,X.env.cells.lookup x=some c→c≠X.env.locals:=fun x c e z=>by
 obtain ⟨v,o,ho,hd⟩:=I.cell x c e
 obtain ⟨m,⟨o',es,ep,ho',hd',_⟩,_⟩:=I.loc
 rw [z,ho'] at ho;cases ho;rw [hd'] at hd;cases hd
theorem Inv.i8 (I:Inv X pins σ H s):s.heap.FunFrames X.base X.outer:=by
 have all:∀(l:List Env),(∀b∈frs l,b∈X.fs)→X.s₀.heap.FunFrames X.base l→s.heap.FunFrames X.base l:=by
  intro l
  induction l with
  | nil=>intro _ _;trivial
  | cons env r ih=>
   intro hs hl
   obtain ⟨hk,⟨L,o,hf,hn,ho,hd⟩,hr⟩:=hl
   have hL:L∈X.fs:=hs L (by unfold frs;rw [List.filterMap_cons,hf];exact List.mem_cons_self)
   obtain ⟨sl,e⟩:=I.base.slot L o ho (I.ok.frf L hL) hL fun z=>I.ok.exfs L z hL
   exact ⟨hk,⟨L,_,hf,hn,e,hd⟩,ih (fun b hb=>hs b (by unfold frs;rw [List.filterMap_cons,hf];exact List.mem_cons_of_mem _ hb)) hr⟩
 exact all X.outer (fun _ hb=>hb) I.ok.i8
theorem Inv.stack (I:Inv X pins σ H s):s.heap.FunFrames X.base X.stack:=by
 rcases I.ok.stk with e | ⟨e,hf⟩
 ·rw [e];exact I.i8
 ·rw [e]
  obtain ⟨m,hn,_⟩:=I.loc
  refine .cons (by rw [I.ok.kind];decide) hf hn ?_ I.i8
  exact Heap.get?_none_of_le (Nat.le_trans I.ok.bsz I.ok.above)
theorem Inv.iA (I:Inv X pins σ H s):∀b∈frs X.stack,b∈X.env.locals::X.fs:=fun b hb=>by
 rcases I.ok.stk with e | ⟨e,hf⟩
 ·rw [e] at hb;exact List.mem_cons_of_mem _ hb
 ·rw [e] at hb
  unfold frs at hb
  rw [List.filterMap_cons,hf] at hb
  exact hb
theorem Inv.oD (I:Inv X pins σ H s):∀b∈frs X.stack,H b=none:=fun b hb=>by
 rcases List.mem_cons.mp (I.iA b hb) with e | hb
 ·rw [e];exact I.free
 ·obtain ⟨_,o,ho,_⟩:=I.ok.i8.mem hb
  exact I.base.free b o ho (I.ok.frf b hb) fun z=>I.ok.exfs b z hb
theorem Inv.step {g':Array GenState} {t':Nat} {d':Drawn} {ch:List Addr} (I:Inv X pins σ H s)
  (hch:∀b∈ch,(b∈X.ex∨X.s₀.heap.objs.size≤b)∧b≠X.env.locals∧(∀x c,X.env.cells.lookup x=some c→c≠b)∧∀p∈X.pn++pins,p.1≠b)
  (keep:∀b o,b≠X.env.locals→b∉X.fs→b∉ch→s.heap.get? b=some o→H b=none→h'.get? b=some o)
  (slot:∀b o,b≠X.env.locals→b∈X.fs→b∉ch→s.heap.get? b=some o→H b=none→∃sl,h'.get? b=some {o with slots:=sl}) (free:∀b o,b∉ch→s.heap.get? b=some o→H b=none→H' b=none)
  (there:∀b o,b∉ch→s.heap.get? b=some o→∃o',h'.get? b=some o')
  (tups:∀b xs,H b=some (.tup xs)→H' b=some (.tup xs)) (frzs:∀b o u,H b=some (.frz o u)→H' b=some (.frz o u)) (tbls:∀b ps,H b=some (.tbl ps)→∃more,H' b=some (.tbl (ps++more)))
  (ns:∀m,s.heap.Ns X.env.locals m→h'.Ns X.env.locals m) (hok:HOk X.prog X.w H' h') (hg:AllBare g'):
  Inv X pins σ H' {s with heap:=h',gens:=g',drawn:=d',toks:=t'}:=by
 have neL:∀b o,X.s₀.heap.get? b=some o→b≠X.env.locals:=fun b o e=>Nat.ne_of_lt (Nat.lt_of_lt_of_le (Heap.lt_size e) I.ok.above)
 have neC:∀b o,X.s₀.heap.get? b=some o→b∉X.ex→b∉ch:=fun b o e hx hb=>by
  rcases (hch b hb).1 with z | z
  ·exact hx z
  ·exact absurd (Nat.lt_of_lt_of_le (Heap.lt_size e) z) (Nat.lt_irrefl _)
 have cellK:∀x c,X.env.cells.lookup x=some c→∀v,s.heap.IsCell c v→h'.IsCell c v:=fun x c e v ⟨o,ho,hd⟩=>by
  have nch:c∉ch:=fun z=>(hch c z).2.2.1 x c e rfl
  by_cases hc:c∈X.fs
  ·obtain ⟨sl,q⟩:=slot c o (I.cne x c e) hc nch ho (I.freeC x c e)
   exact ⟨_,q,hd⟩
  ·exact ⟨o,keep c o (I.cne x c e) hc nch ho (I.freeC x c e),hd⟩
 refine ⟨I.ok,I.os,hg,⟨fun b o e n hb hx=>?_,fun b o e n hb hx=>?_,fun b o e n hx=>?_,fun b o e hx=>?_,fun b xs e=>tups b xs (I.base.tups b xs e),fun b o xs e=>frzs b o xs (I.base.frzs b o xs e),fun b ps e=>?_⟩,?_,fun x c e=>?_,?_,fun x c e=>?_,fun p hp=>?_,hok,I.len⟩
 ·exact keep b o (neL b o e) hb (neC b o e hx) (I.base.keep b o e n hb hx) (I.base.free b o e n hx)
 ·obtain ⟨sl,e1⟩:=I.base.slot b o e n hb hx
  obtain ⟨sl',e2⟩:=slot b _ (neL b o e) hb (neC b o e hx) e1 (I.base.free b o e n hx)
  exact ⟨sl',e2⟩
 ·obtain ⟨o',e1⟩:=I.base.there b o e hx
  exact free b o' (neC b o e hx) e1 (I.base.free b o e n hx)
 ·obtain ⟨o',e1⟩:=I.base.there b o e hx
  exact there b o' (neC b o e hx) e1
 ·obtain ⟨m1,e1⟩:=I.base.tbls b ps e
  obtain ⟨m2,e2⟩:=tbls b _ e1
  exact ⟨m1++m2,by rw [e2,Array.append_assoc]⟩
 ·obtain ⟨m,hn,hl⟩:=I.loc
  refine ⟨m,ns m hn,fun i x v e1 e2 e3=>?_⟩
  obtain ⟨u,r,l⟩:=hl i x v e1 e2 e3
  refine ⟨u,r,?_⟩
  rcases l with l | ⟨k,c,e,z⟩
  ·exact .inl l
  ·exact .inr ⟨k,c,e,cellK x c e _ z⟩
 ·obtain ⟨v,z⟩:=I.cell x c e
  exact ⟨v,cellK x c e v z⟩
 ·obtain ⟨m,⟨o,_,_,ho,_⟩,_⟩:=I.loc
  exact free _ o (fun z=>(hch _ z).2.1 rfl) ho I.free
 ·obtain ⟨v,o,ho,hd⟩:=I.cell x c e
  exact free c o (fun z=>(hch c z).2.2.1 x c e rfl) ho (I.freeC x c e)
 ·obtain ⟨e,n,ne,nf,d⟩:=I.pin p hp
  have nch:p.1∉ch:=fun z=>(hch p.1 z).2.2.2 p hp rfl
  exact ⟨keep p.1 p.2 ne nf nch e n,free p.1 p.2 nch e n,ne,nf,d⟩
theorem Inv.un {t':Nat} (I:Inv X pins σ H s) (u:Un X.fs [] H H' s.heap h') (hok:HOk X.prog X.w H' h'):Inv X pins σ H' {s with heap:=h',toks:=t'}:=by
 obtain ⟨m,⟨o,es,ep,ho,r⟩,_⟩:=id I.loc
 obtain ⟨sl,hL⟩:=u.any ho I.free (by simp)
 exact I.step (g':=s.gens) (d':=s.drawn) (ch:=[]) (fun _ z=>nomatch z) (fun b o _ hb _ e n=>u.keep b o e n hb (by simp)) (fun b o _ hb _ e n=>u.slot b o e n hb (by simp)) (fun b o _ e n=>u.free b o e n (by simp)) (fun b o _ e=>u.there b o e (by simp)) u.tups u.frzs u.tbls (fun m' hm=>by
  obtain ⟨o',es',ep',ho',r'⟩:=hm
  rw [ho] at ho';cases ho'
  exact ⟨_,es',ep',hL,r'⟩) hok I.bare
theorem Inv.call {g':Array GenState} {t':Nat} {d':Drawn} {ch:List Addr} (I:Inv X pins σ H s) (u:Un (frs X.stack) ch H H' s.heap h') (hok:HOk X.prog X.w H' h') (hg:AllBare g')
  (hch:∀b∈ch,(b∈X.ex∨X.s₀.heap.objs.size≤b)∧b≠X.env.locals∧(∀x c,X.env.cells.lookup x=some c→c≠b)∧∀p∈X.pn++pins,p.1≠b):
  Inv X pins σ H' {s with heap:=h',gens:=g',drawn:=d',toks:=t'}:=by
 obtain ⟨m,⟨o,es,ep,ho,r⟩,_⟩:=id I.loc
 obtain ⟨sl,hL⟩:=u.any ho I.free fun z=>(hch _ z).2.1 rfl
 exact I.step (ch:=ch) hch (fun b o hL hb hc e n=>u.keep b o e n (fun z=>(List.mem_cons.mp (I.iA b z)).elim hL hb) hc) (fun b o _ _ hc e n=>u.any e n hc) (fun b o hc e n=>u.free b o e n hc) (fun b o hc e=>u.there b o e hc) u.tups u.frzs u.tbls (fun m' hm=>by
  obtain ⟨o',es',ep',ho',r'⟩:=hm
  rw [ho] at ho';cases ho'
  exact ⟨_,es',ep',hL,r'⟩) hok hg
theorem Inv.turned {t':Nat} {it:Addr} (I:Inv X pins σ H s) (k:∀b o,b≠it→s.heap.get? b=some o→h'.get? b=some o) (hn:H it=none) (hL:it≠X.env.locals)
  (h1:it∈X.ex∨X.s₀.heap.objs.size≤it) (h2:∀x c,X.env.cells.lookup x=some c→c≠it) (h3:∀p∈X.pn++pins,p.1≠it):Inv X pins σ H {s with heap:=h',toks:=t'}:=by
 have nit:∀b u,H b=some u→b≠it:=fun b u e z=>by rw [z,hn] at e;cases e
 refine I.step (g':=s.gens) (d':=s.drawn) (ch:=[it]) (fun b hb=>?_) (fun b o _ _ hc e _=>k b o (fun z=>hc (by simp [z])) e) (fun b o _ _ hc e _=>⟨o.slots,k b o (fun z=>hc (by simp [z])) e⟩) (fun _ _ _ _ n=>n)
  (fun b o hc e=>⟨o,k b o (fun z=>hc (by simp [z])) e⟩) (fun _ _ e=>e) (fun _ _ _ e=>e) (fun b ps e=>⟨#[],by rw [e];simp⟩) (fun m hm=>?_) (fun b u e=>?_) I.bare
 ·have e:b=it:=by simpa using hb
  subst e
  exact ⟨h1,hL,h2,h3⟩
 ·obtain ⟨o,es,ep,ho,r⟩:=hm
  exact ⟨o,es,ep,k _ o (Ne.symm hL) ho,r⟩
 ·refine (I.hok b u e).jr (fun c v hc q=>k c v ?_ q) (fun _ q=>q) fun _ _ q=>q
  rcases hc with z | z
  ·rw [z];exact nit b u e
  ·exact nit c _ z
theorem Inv.tok (I:Inv X pins σ H s) (t:Nat):Inv X pins σ H {s with toks:=t}:=I.un (h':=s.heap) (t':=t) Un.refl I.hok
theorem Inv.kept {t':Nat} (I:Inv X pins σ H s) (k:∀b u,s.heap.get? b=some u→h'.get? b=some u):Inv X pins σ H {s with heap:=h',toks:=t'}:=I.un (Un.kept k) (I.hok.kept k)
theorem Inv.laid {a:Addr} {o:HO} {t':Nat} (I:Inv X pins σ H s) (k:∀b u,s.heap.get? b=some u→h'.get? b=some u) (hp:s.heap.objs.size≤a) (new:bB X.prog X.w (upd H a o) h' a o):
  Inv X pins σ (upd H a o) {s with heap:=h',toks:=t'}:=I.un (Un.laid k hp (I.hok.fresh hp)) (I.hok.laid k hp new)
theorem Inv.write {x e:Addr} {o:HO} {t':Nat} (I:Inv X pins σ H s) (mu:Mut (H x)) (he:e=x∨H e=some (.own x)) (k:∀b u,b≠e→s.heap.get? b=some u→h'.get? b=some u) (heo:∃u,h'.get? e=some u)
  (new:bB X.prog X.w (upd H x o) h' x o):Inv X pins σ (upd H x o) {s with heap:=h',toks:=t'}:=I.un (Un.write mu he k heo) (I.hok.write mu he k heo new)
theorem Inv.oK {pins':List (Addr×Obj)} (I:Inv X pins σ H s) (h:∀p∈pins',s.heap.get? p.1=some p.2∧H p.1=none∧p.1≠X.env.locals∧p.1∉X.fs∧∀v,p.2.data≠.cell v):Inv X pins' σ H s:=
 ⟨I.ok,I.os,I.bare,I.base,I.loc,I.cell,I.free,I.freeC,fun p hp=>(List.mem_append.mp hp).elim (fun z=>I.pin p (List.mem_append_left _ z)) (h p),I.hok,I.len⟩
theorem mH {N:List Str} (hN:N.Nodup) {i j:Nat} {x:Str} (a:N[i]?=some x) (b:N[j]?=some x):i=j:=by
 obtain ⟨h1,e1⟩:=List.getElem?_eq_some_iff.mp a
 obtain ⟨h2,e2⟩:=List.getElem?_eq_some_iff.mp b
 exact (List.getElem_inj hN).mp (e1.trans e2.symm)
theorem jW {M:Model} {A:Around} {E:Value→Shared→Prop} {i:Nat} {x:Str} {v:V} {u:Value} {Q:Unit→Shared→Prop} (I:Inv X pins σ H s) (hN:X.N.Nodup) (hi:X.N[i]?=some x) (hx:Loc X.env.scope x) (r:RelV v u)
  (h:∀s',Inv X pins (σ.set i (some v)) H s'→(∃a,Heap.SameBut a s.heap s'.heap∧(a=X.env.locals∨X.env.cells.lookup x=some a))→Q () s') (hf:X.fn x=true∨X.env.scope.names.lookup x=some .local:=by first | exact .inl rfl | exact .inr rfl | assumption):wpAny M A (storeName X.env x u) Q E s:=by
 obtain ⟨m,hn,hl⟩:=id I.loc
 have hcls:(X.env.scope.kind==.class||(X.env.scope.kind==.module&&X.env.locals !=X.env.globals))=false:=by rw [I.ok.kind];rfl
 have hiσ:i < σ.length:=by rw [I.len];exact (List.getElem?_eq_some_iff.mp hi).1
 have cne:=I.cne
 have tracked:∀{a:Addr} {h':Heap},(∃o,s.heap.get? a=some o∧H a=none)→Heap.SameBut a s.heap h'→HOk X.prog X.w H h':=fun {a h'} ha hs b ob e=>by
  obtain ⟨_,_,hfree⟩:=ha
  refine (I.hok b ob e).jr (fun c w' hc q=>(hs.2 c ?_).trans q) (fun _ q=>q) fun _ _ q=>q
  rintro rfl
  rcases hc with rfl | hc
  ·rw [hfree] at e;cases e
  ·rw [hfree] at hc;cases hc
 rcases hx with hk | hk
 ·refine wpAny_storeName_local hk hn (fun h' hn' hs=>?_) hcls
  obtain ⟨oL,_,_,hoL,_⟩:=id hn
  refine h _ ⟨I.ok,I.os,I.bare,⟨fun b o e n hb hx=>?_,fun b o e n hb hx=>?_,I.base.free,fun b o e hx=>?_,I.base.tups,I.base.frzs,I.base.tbls⟩,⟨_,hn',fun j y v' e1 e2 e3=>?_⟩,fun y c e=>?_,I.free,I.freeC,fun p hp=>?_,tracked ⟨oL,hoL,I.free⟩ hs,by simpa using I.len⟩ ⟨_,hs,.inl rfl⟩
  ·exact (hs.2 b (Nat.ne_of_lt (Nat.lt_of_lt_of_le (Heap.lt_size e) I.ok.above))).trans (I.base.keep b o e n hb hx)
  ·obtain ⟨sl,e1⟩:=I.base.slot b o e n hb hx
   exact ⟨sl,(hs.2 b (Nat.ne_of_lt (Nat.lt_of_lt_of_le (Heap.lt_size e) I.ok.above))).trans e1⟩
  ·obtain ⟨o',e1⟩:=I.base.there b o e hx
   exact ⟨o',(hs.2 b (Nat.ne_of_lt (Nat.lt_of_lt_of_le (Heap.lt_size e) I.ok.above))).trans e1⟩
  ·by_cases hj:j=i
   ·subst hj
    rw [hi] at e1;cases e1
    rw [List.getElem?_set_self hiσ] at e2
    cases e2
    exact ⟨u,r,.inl ⟨hk,by simp⟩⟩
   ·rw [List.getElem?_set_ne (Ne.symm hj)] at e2
    obtain ⟨u',r',q⟩:=hl j y v' e1 e2 e3
    refine ⟨u',r',?_⟩
    rcases q with ⟨k,e⟩ | ⟨k,c,e,z⟩
    ·refine .inl ⟨k,?_⟩
     have:y≠x:=fun e=>hj (mH hN e1 (e ▸ hi))
     simp [this,e]
    ·exact .inr ⟨k,c,e,z.sameBut hs (cne y c e)⟩
  ·obtain ⟨w',z⟩:=I.cell y c e
   exact ⟨w',z.sameBut hs (cne y c e)⟩
  ·obtain ⟨e,n,ne,nf,d⟩:=I.pin p hp
   exact ⟨(hs.2 p.1 ne).trans e,n,ne,nf,d⟩
 ·have hfn:X.fn x=true:=by
   rcases hf with z | z
   ·exact z
   ·rw [z] at hk;cases hk
  obtain ⟨c,hc⟩:=I.ok.has x (.inl hk)
  obtain ⟨w',z⟩:=I.cell x c hc
  refine wpAny_storeName_cell I.ok.kind hk hc z (fun h' hc' hs=>?_)
  obtain ⟨oc,hoc,hocd⟩:=id z
  refine h {s with heap:=h'} ⟨I.ok,I.os,I.bare,⟨fun b o e n hb hx=>?_,fun b o e n hb hx=>?_,I.base.free,fun b o e hx=>?_,I.base.tups,I.base.frzs,I.base.tbls⟩,⟨m,hn.sameBut hs (Ne.symm (cne x c hc)),fun j y v' e1 e2 e3=>?_⟩,fun y c' e=>?_,I.free,I.freeC,fun p hp=>?_,tracked ⟨oc,hoc,I.freeC x c hc⟩ hs,by simpa using I.len⟩ ⟨c,hs,.inr hc⟩
  ·exact (hs.2 b (Nat.ne_of_lt (Nat.lt_of_lt_of_le (Heap.lt_size e) (I.ok.cab x c hfn hc)))).trans (I.base.keep b o e n hb hx)
  ·obtain ⟨sl,e1⟩:=I.base.slot b o e n hb hx
   exact ⟨sl,(hs.2 b (Nat.ne_of_lt (Nat.lt_of_lt_of_le (Heap.lt_size e) (I.ok.cab x c hfn hc)))).trans e1⟩
  ·obtain ⟨o',e1⟩:=I.base.there b o e hx
   exact ⟨o',(hs.2 b (Nat.ne_of_lt (Nat.lt_of_lt_of_le (Heap.lt_size e) (I.ok.cab x c hfn hc)))).trans e1⟩
  ·by_cases hj:j=i
   ·subst hj
    rw [hi] at e1;cases e1
    rw [List.getElem?_set_self hiσ] at e2
    cases e2
    exact ⟨u,r,.inr ⟨.inl hk,c,hc,hc'⟩⟩
   ·rw [List.getElem?_set_ne (Ne.symm hj)] at e2
    obtain ⟨u',r',q⟩:=hl j y v' e1 e2 e3
    refine ⟨u',r',?_⟩
    rcases q with q | ⟨k,c',e,z'⟩
    ·exact .inl q
    ·refine .inr ⟨k,c',e,z'.sameBut hs ?_⟩
     rintro rfl
     exact hj (mH hN e1 (I.ok.inj _ _ _ e hc ▸ hi))
  ·by_cases hcc:c'=c
   ·subst hcc;exact ⟨_,hc'⟩
   ·obtain ⟨w2,z2⟩:=I.cell y c' e
    exact ⟨w2,z2.sameBut hs hcc⟩
  ·obtain ⟨e,n,ne,nf,d⟩:=I.pin p hp
   refine ⟨(hs.2 p.1 ?_).trans e,n,ne,nf,d⟩
   intro q
   rw [q,hoc] at e
   have q':oc=p.2:=Option.some.inj e
   exact d w' (by rw [←q'];exact hocd)
theorem fT {M:Model} {A:Around} {E:Value→Shared→Prop} {i:Nat} {x:Str} {v:V} {u:Value} {Q:Unit→Shared→Prop} (I:Inv X pins σ H s) (hN:X.N.Nodup) (hi:X.N[i]?=some x) (hx:Loc X.env.scope x) (r:RelV v u)
  (h:∀s',Inv X pins (σ.set i (some v)) H s'→Q () s') (hf:X.fn x=true∨X.env.scope.names.lookup x=some .local:=by first | exact .inl rfl | exact .inr rfl | assumption):wpAny M A (storeName X.env x u) Q E s:=
 jW I hN hi hx r (fun s' I' _=>h s' I') hf
theorem Inv.call' {s':Shared} {ch:List Addr} (I:Inv X pins σ H s) (ho:s'.os=s.os) (u:Un (frs X.stack) ch H H' s.heap s'.heap) (hok:HOk X.prog X.w H' s'.heap) (hg:AllBare s'.gens)
  (hch:∀b∈ch,(b∈X.ex∨X.s₀.heap.objs.size≤b)∧b≠X.env.locals∧(∀x c,X.env.cells.lookup x=some c→c≠b)∧∀p∈X.pn++pins,p.1≠b):Inv X pins σ H' s':=by
 obtain ⟨h',g',d',t',o'⟩:=s'
 have e:o'=s.os:=ho
 subst e
 exact I.call (g':=g') (t':=t') (d':=d') u hok hg hch
end
abbrev XK:=Value→Option Addr→Hp→Prop
abbrev St:=List (Option V)
abbrev VK:=V→Hp→Prop
abbrev TE:=St→Hp→VK→Prop
abbrev TT:=St→Hp→(Bool→Hp→Prop)→Prop
abbrev TA:=St→Hp→(List V→Hp→Prop)→Prop
structure Ends where
 nx:St→Hp→Prop
 rt:VK
 bk:St→Hp→Prop:=fun _ _=>False
 ct:St→Hp→Prop:=fun _ _=>False
abbrev TS:=Ends→St→Hp→Prop
inductive EPi (X:Cx) (pins:List (Addr×Obj)) (σ:St) (Q:VK) (u:Value) (s':Shared):Prop where
 | mk (v H'):Inv X pins σ H' s'→RelV v u→Q v H'→EPi X pins σ Q u s'
def EP (X:Cx) (pins:List (Addr×Obj)) (σ:St) (Q:VK) (u:Value) (s':Shared):Prop:=EPi X pins σ Q u s'
def TP (X:Cx) (pins:List (Addr×Obj)) (σ:St) (Q:Bool→Hp→Prop) (b:Bool) (s':Shared):Prop:=∃H',Inv X pins σ H' s'∧Q b H'
inductive APi (X:Cx) (pins:List (Addr×Obj)) (σ:St) (Q:List V→Hp→Prop) (us:List Value) (s':Shared):Prop where
 | mk (vs H'):Inv X pins σ H' s'→Vals vs us→Q vs H'→APi X pins σ Q us s'
def AP (X:Cx) (pins:List (Addr×Obj)) (σ:St) (Q:List V→Hp→Prop) (us:List Value) (s':Shared):Prop:=APi X pins σ Q us s'
def SP (X:Cx) (pins:List (Addr×Obj)) (D:Ends) (f:Flow) (s':Shared):Prop:=
 match f with
 | .next=>∃σ' H',Inv X pins σ' H' s'∧D.nx σ' H'
 | .brk=>∃σ' H',Inv X pins σ' H' s'∧D.bk σ' H'
 | .cont=>∃σ' H',Inv X pins σ' H' s'∧D.ct σ' H'
 | .ret u=>∃v σ' H',Inv X pins σ' H' s'∧RelV v u∧D.rt v H'
def PE (X:Cx) (e:Expr) (t:TE):Prop:=
 ∀(pins:List (Addr×Obj)) (s:Shared) (σ:St) (H:Hp) (Q:VK),Inv X pins σ H s→t σ H Q→wpAny (model X.prog X.w) X.A (eval e X.env) (EP X pins σ Q) X.xe s
def PT (X:Cx) (e:Expr) (t:TT):Prop:=
 ∀(pins:List (Addr×Obj)) (s:Shared) (σ:St) (H:Hp) (Q:Bool→Hp→Prop),Inv X pins σ H s→t σ H Q→wpAny (model X.prog X.w) X.A (isTrue e X.env (eval e X.env)) (TP X pins σ Q) X.xe s
def PW (X:Cx) (e:Expr) (t:TT):Prop:=
 ∀(whole:Sem Value) (pins:List (Addr×Obj)) (s:Shared) (σ:St) (H:Hp) (Q:Bool→Hp→Prop),Inv X pins σ H s→t σ H Q→wpAny (model X.prog X.w) X.A (isTrue e X.env whole) (TP X pins σ Q) X.xe s
theorem PW.pt {X:Cx} {e:Expr} {t:TT} (h:PW X e t):PT X e t:=h _
def PA (X:Cx) (es:List Expr) (t:TA):Prop:=
 ∀(pos:Pos) (pins:List (Addr×Obj)) (s:Shared) (σ:St) (H:Hp) (Q:List V→Hp→Prop),Inv X pins σ H s→t σ H Q→wpAny (model X.prog X.w) X.A (spliced (backTo pos (starEach es X.env))) (AP X pins σ Q) X.xe s
def PS (X:Cx) (st:Stmt) (t:TS):Prop:=
 ∀(pins:List (Addr×Obj)) (s:Shared) (σ:St) (H:Hp) (D:Ends),Inv X pins σ H s→t D σ H→wpAny (model X.prog X.w) X.A (exec st X.env) (SP X pins D) X.xe s
def PSs (X:Cx) (st:List Stmt) (t:TS):Prop:=
 ∀(pins:List (Addr×Obj)) (s:Shared) (σ:St) (H:Hp) (D:Ends),Inv X pins σ H s→t D σ H→wpAny (model X.prog X.w) X.A (execs st X.env) (SP X pins D) X.xe s
theorem thn {α:Type} {t:Sem α} {Q Q':α→Shared→Prop} {M:Model} {A:Around} {E:Value→Shared→Prop} {s:Shared} (h:wpAny M A t Q E s) (hQ:∀a s,Q a s→Q' a s):wpAny M A t Q' E s:=wpAny_mono h hQ fun _ _ x=>x
end L2
namespace L2
open PySem PySem.Spec PyProof.Rows
section
variable {X:Cx}
def yc (i:Nat):TE:=fun σ H Q=>∃v,σ[i]?=some (some v)∧Q v H
def tC (v:V):TE:=fun _ H Q=>Q v H
theorem vn {i:Nat} {x:Str} {pos:Pos} (hN:X.N[i]?=some x) (hv:Vis X.env.scope x) (hd:(x==("__debug__":Str))=false:=by decide) (hcd:(x==("__classdict__":Str))=false:=by decide):PE X (.Name x pos) (yc i):=by
 intro pins s σ H Q I h
 obtain ⟨v,e,h⟩:=h
 obtain ⟨m,hn,hl⟩:=I.loc
 obtain ⟨u,r,l⟩:=hl i x v hN e hv
 have fin:EP X pins σ Q u s:=⟨v,H,I,r,h⟩
 rcases l with ⟨hk,hm⟩ | ⟨hk,c,hc,hcell⟩
 ·exact wpAny_Name (wpAny_loadName_local I.ok.kind hk hn hm fin) hd
 ·rcases hk with hk | hk
  ·exact wpAny_Name (wpAny_loadName_cell I.ok.kind hk hc hcell fin) hd
  ·exact wpAny_Name (wpAny_loadName_free I.ok.kind hk hc hcell fin hcd) hd
theorem vw {i j pos}:PE X (.Constant (.int i) j pos) (tC (.int i)):=fun _ _ _ H _ I h=>wpAny_Constant_int ⟨.int i,H,I.tok _,⟨_,rfl⟩,h⟩
theorem xI {b j pos}:PE X (.Constant (.bool b) j pos) (tC (.bl b)):=fun _ _ _ H _ I h=>Constant_bool ⟨.bl b,H,I,rfl,h⟩
theorem vt {j pos}:PE X (.Constant .none j pos) (tC .non):=fun _ _ _ H _ I h=>Constant_none ⟨.non,H,I,rfl,h⟩
theorem vp {x j pos}:PE X (.Constant (.str x) j pos) (tC (.str x)):=fun _ _ _ H _ I h=>Calls.Constant_str ⟨.str x,H,I.tok _,⟨_,rfl⟩,h⟩
def Gl (X:Cx) (x:Str):Prop:=X.env.kindOf x=some .globalImplicit
theorem tH {E:Value→Shared→Prop} {pins:List (Addr×Obj)} {s:Shared} {σ:St} {H:Hp} {x:Str} {u:Value} {pos:Pos} {Q:Value→Shared→Prop} (I:Inv X pins σ H s) (hg:Gl X x) (hm:X.mg x=some u) (h:Q u s)
  (hd:(x==("__debug__":Str))=false:=by decide):wpAny (model X.prog X.w) X.A (eval (.Name x pos) X.env) Q E s:=
 Calls.Name_function_global I.ok.kind hg (Calls.loadGlobal_global (by rw [I.ok.glob];exact I.mod.glob.keeps I.bk) hm h) hd
theorem c8 {E:Value→Shared→Prop} {pins:List (Addr×Obj)} {s:Shared} {σ:St} {H:Hp} {x:Str} {u:Value} {pos:Pos} {Q:Value→Shared→Prop} (I:Inv X pins σ H s) (hg:Gl X x) (hm:X.mg x=none) (hv:bootBuiltins x=some u) (h:Q u s)
  (hn:x≠"__name__":=by decide) (hd:(x==("__debug__":Str))=false:=by decide):wpAny (model X.prog X.w) X.A (eval (.Name x pos) X.env) Q E s:=by
 obtain ⟨mb,h1,h2⟩:=I.mod.blt
 exact Calls.Name_function_global I.ok.kind hg (Calls.loadGlobal_builtin (by rw [I.ok.glob];exact I.mod.glob.keeps I.bk) hm (by rw [I.ok.blt];exact h1.keeps I.bk) ((h2 x hn).trans hv) h) hd
theorem sY {x:Str} {v:V} {u:Value} {pos:Pos} (hg:Gl X x) (hm:X.mg x=none) (hv:bootBuiltins x=some u) (r:RelV v u) (hn:x≠"__name__":=by decide) (hd:(x==("__debug__":Str))=false:=by decide):PE X (.Name x pos) (tC v):=
 fun _ _ _ H _ I h=>c8 I hg hm hv ⟨v,H,I,r,h⟩ hn hd
variable {a b:Expr} {ta tb:TE} {pos:Pos}
variable {tA tB':TT} {rest:List Expr}
def gz (t u:TT):TT:=fun σ H Q=>t σ H fun c H1=>if c=true then u σ H1 Q else Q false H1
def tOr (t u:TT):TT:=fun σ H Q=>t σ H fun c H1=>if c=true then Q true H1 else u σ H1 Q
def o5 (t:TT):TT:=fun σ H Q=>t σ H fun c H1=>Q (!c) H1
theorem sF (ha:PT X a tA):PW X (.BoolOp .And [a] pos) tA:=by
 intro wh pins s σ H Q I h
 refine isTrue_and (thn (ha pins s σ H Q I h) fun c s1 e=>?_)
 cases c with
 | true=>exact isTrue_and_nil e
 | false=>exact e
theorem u9 (ha:PT X a tA):PW X (.BoolOp .Or [a] pos) tA:=by
 intro wh pins s σ H Q I h
 refine isTrue_or (thn (ha pins s σ H Q I h) fun c s1 e=>?_)
 cases c with
 | false=>exact isTrue_or_nil e
 | true=>exact e
theorem vc (ha:PT X a tA) (hb:PW X (.BoolOp .And (b::rest) pos) tB'):PW X (.BoolOp .And (a::b::rest) pos) (gz tA tB'):=by
 intro wh pins s σ H Q I h
 refine isTrue_and (thn (ha pins s σ H _ I h) fun c s1 ⟨H1,I1,q1⟩=>?_)
 cases c with
 | true=>exact hb wh pins s1 σ H1 Q I1 q1
 | false=>exact ⟨H1,I1,q1⟩
theorem xD (ha:PT X a tA) (hb:PW X (.BoolOp .Or (b::rest) pos) tB'):PW X (.BoolOp .Or (a::b::rest) pos) (tOr tA tB'):=by
 intro wh pins s σ H Q I h
 refine isTrue_or (thn (ha pins s σ H _ I h) fun c s1 ⟨H1,I1,q1⟩=>?_)
 cases c with
 | true=>exact ⟨H1,I1,q1⟩
 | false=>exact hb wh pins s1 σ H1 Q I1 q1
theorem vd (ha:PT X a tA):PT X (.UnaryOp .Not a pos) (o5 tA):=by
 intro pins s σ H Q I h
 exact isTrue_not (ha pins s σ H (fun c H1=>Q (!c) H1) I h)
def xc (ta tb:TE):TE:=fun σ H Q=>ta σ H fun x H1=>∃c,x=.bl c∧if c=true then tb σ H1 Q else Q (.bl false) H1
theorem vq {op} {t:TE} (h:PE X a t):PE X (.BoolOp op [a] pos) t:=fun pins s σ H Q I hw=>BoolOp_one (h pins s σ H Q I hw)
theorem vy (ha:PE X a ta) (hb:PE X (.BoolOp .And (b::rest) pos) tb):PE X (.BoolOp .And (a::b::rest) pos) (xc ta tb):=by
 intro pins s σ H Q I h
 refine BoolOp_and (thn (ha pins s σ H _ I h) fun v s1 ⟨x,H1,I1,r1,q1⟩=>?_)
 obtain ⟨c,rfl,q1⟩:=q1
 cases r1
 refine wpAny_truthy_bool ?_
 cases c with
 | true=>exact hb pins s1 σ H1 Q I1 q1
 | false=>exact ⟨.bl false,H1,I1,rfl,q1⟩
end
end L2
namespace L2
open PySem PySem.Spec PyProof.Rows
def SqL (K:PySem.W.Frag) (H:Hp) (a:Addr) (xs:List V):Prop:=
 Rd H a (.lst xs)∨
  ∃(o:Obj) (its:Array Value) (n:Nat),K.lookup a=some o∧o.cls=.type "list"∧o.dict=none∧o.data=.seq its n∧its.size≤sizeLine∧Vals xs its.toList
def SqT (K:PySem.W.Frag) (H:Hp) (a:Addr) (xs:List V):Prop:=
 Rd H a (.tup xs)∨
  ∃(o:Obj) (its:Array Value) (n:Nat),K.lookup a=some o∧o.cls=.type "tuple"∧o.data=.seq its n∧its.size≤sizeLine∧Vals xs its.toList∧o.dict=none
def y4:Value→Option V
 | .none=>some .non
 | .bool b=>some (.bl b)
 | .int i _=>some (.int i)
 | .str x _=>some (.str x)
 | .bytes b _=>some (.byt b)
 | .float b _=>some (.flt b)
 | .ref a=>some (.ref a)
 | .type n=>some (.ty n)
 | _=>none
theorem RelV.abs {x:V} {u:Value} (r:RelV x u):y4 u=some x:=by
 cases x with
 | non=>cases r;rfl
 | bl _=>cases r;rfl
 | int _=>obtain ⟨t,rfl⟩:=r;rfl
 | str _=>obtain ⟨t,rfl⟩:=r;rfl
 | byt _=>obtain ⟨t,rfl⟩:=r;rfl
 | flt _=>obtain ⟨t,rfl⟩:=r;rfl
 | ref _=>cases r;rfl
 | ty _=>cases r;rfl
theorem RelV.inj {x y:V} {u:Value} (r:RelV x u) (q:RelV y u):x=y:=Option.some.inj (r.abs.symm.trans q.abs)
theorem Vals.inj:∀{xs ys:List V} {us:List Value},Vals xs us→Vals ys us→xs=ys
 | _,_,_,.nil,.nil=>rfl
 | _,_,_,.cons r t,.cons r' t'=>by rw [r.inj r',Vals.inj t t']
section
variable {X:Cx} {pins:List (Addr×Obj)} {σ:St} {H:Hp} {s:Shared} {a:Addr} {xs ys:List V}
theorem SqL.of {K:PySem.W.Frag} (h:H a=some (.lst xs)):SqL K H a xs:=.inl (.inl h)
theorem Inv.list (I:Inv X pins σ H s) (h:SqL X.K H a xs):∃its:List Value,Vals xs its∧PlainL s.heap a its.toArray∧xs.length≤sizeLine:=by
 rcases h with h | ⟨o,its,n,hk,hc,hd,hs,hz,r⟩
 ·obtain ⟨z,its,n,r,e⟩:=h.ok I.hok
  exact ⟨its,r,⟨_,n,e,rfl,rfl,rfl⟩,z⟩
 ·refine ⟨its.toList,r,⟨o,n,I.kIn a o hk,hc,hd,by simpa using hs⟩,?_⟩
  have e:=r.length
  simp only [Array.length_toList] at e
  omega
theorem Inv.tuple (I:Inv X pins σ H s) (h:SqT X.K H a xs):∃its:List Value,Vals xs its∧IsTup s.heap a its.toArray∧xs.length≤sizeLine:=by
 rcases h with h | ⟨o,its,n,hk,hc,hs,hz,r,_⟩
 ·obtain ⟨z,its,r,p⟩:=h.ok I.hok
  exact ⟨its,r,p.tup,z⟩
 ·refine ⟨its.toList,r,⟨o,I.kIn a o hk,hc,n,by simpa using hs⟩,?_⟩
  have e:=r.length
  simp only [Array.length_toList] at e
  omega
theorem Inv.uz (I:Inv X pins σ H s) (h:SqT X.K H a xs):∃its:List Value,Vals xs its∧jM s.heap a its.toArray∧xs.length≤sizeLine:=by
 rcases h with h | ⟨o,its,n,hk,hc,hs,hz,r,hd⟩
 ·obtain ⟨z,its,r,p⟩:=h.ok I.hok
  exact ⟨its,r,p,z⟩
 ·refine ⟨its.toList,r,⟨o,I.kIn a o hk,hc,⟨n,by simpa using hs⟩,hd⟩,?_⟩
  have e:=r.length
  simp only [Array.length_toList] at e
  omega
theorem Inv.mQ (I:Inv X pins σ H s) (h:SqL X.K H a xs) (h':SqL X.K H a ys):xs=ys:=by
 obtain ⟨its,r,⟨o,n,e,_,_,d⟩,_⟩:=I.list h
 obtain ⟨its',r',⟨o',n',e',_,_,d'⟩,_⟩:=I.list h'
 rw [e] at e';cases e'
 rw [d] at d'
 injection d' with d1 _
 have:its=its':=by simpa using congrArg Array.toList d1
 subst this
 exact r.inj r'
theorem Inv.jS (I:Inv X pins σ H s) (h:SqT X.K H a xs) (h':SqT X.K H a ys):xs=ys:=by
 obtain ⟨its,r,⟨o,e,_,n,d⟩,_⟩:=I.tuple h
 obtain ⟨its',r',⟨o',e',_,n',d'⟩,_⟩:=I.tuple h'
 rw [e] at e';cases e'
 rw [d] at d'
 injection d' with d1 _
 have:its=its':=by simpa using congrArg Array.toList d1
 subst this
 exact r.inj r'
end
abbrev Cx.jq (X:Cx) (E:Value→Shared→Prop):Cx:={X with xe:=E}
abbrev Cx.nox (X:Cx):Cx:=X.jq fun _ _=>False
theorem Cx.Ok.jq {X:Cx} (ok:X.Ok) (E:Value→Shared→Prop):(X.jq E).Ok:=
 ⟨ok.mod,ok.kind,ok.glob,ok.blt,ok.above,ok.inj,ok.has,ok.cab,ok.hd,ok.frames,ok.stk,ok.exf,ok.bs,ok.bsz,ok.noex,ok.exfs,ok.i8,ok.frf⟩
theorem Cx.Ok.eI {X:Cx} {E:Value→Shared→Prop} (ok:(X.jq E).Ok):X.Ok:=
 ⟨ok.mod,ok.kind,ok.glob,ok.blt,ok.above,ok.inj,ok.has,ok.cab,ok.hd,ok.frames,ok.stk,ok.exf,ok.bs,ok.bsz,ok.noex,ok.exfs,ok.i8,ok.frf⟩
section
variable {X:Cx} {pins:List (Addr×Obj)} {σ:St} {H:Hp} {s:Shared} {E:Value→Shared→Prop}
theorem Inv.jq (I:Inv X pins σ H s) (E:Value→Shared→Prop):Inv (X.jq E) pins σ H s:=⟨I.ok.jq E,I.os,I.bare,I.base,I.loc,I.cell,I.free,I.freeC,I.pin,I.hok,I.len⟩
theorem Inv.eI (I:Inv (X.jq E) pins σ H s):Inv X pins σ H s:=⟨I.ok.eI,I.os,I.bare,I.base,I.loc,I.cell,I.free,I.freeC,I.pin,I.hok,I.len⟩
theorem SP.eI {D:Ends} {f:Flow} {s':Shared} (h:SP (X.jq E) pins D f s'):SP X pins D f s':=by
 cases f with
 | next=>obtain ⟨σ',H',I,q⟩:=h;exact ⟨σ',H',I.eI,q⟩
 | brk=>obtain ⟨σ',H',I,q⟩:=h;exact ⟨σ',H',I.eI,q⟩
 | cont=>obtain ⟨σ',H',I,q⟩:=h;exact ⟨σ',H',I.eI,q⟩
 | ret u=>obtain ⟨v,σ',H',I,r,q⟩:=h;exact ⟨v,σ',H',I.eI,r,q⟩
theorem PSs.nox {st:List Stmt} {t:TS} (h:PSs X.nox st t):PSs X st t:=fun pins s σ H D I hw=>
 wpAny_mono (h pins s σ H D (I.jq _) hw) (fun _ _ q=>q.eI) fun _ _ z=>False.elim z
end
section
variable {X:Cx} {st:Stmt} {rest:List Stmt} {t u:TS} {e:Expr} {te:TE} {pos:Pos}
def w5:TS:=fun D σ H=>D.nx σ H
def wX (t u:TS):TS:=fun D σ H=>t {D with nx:=u D} σ H
theorem sI:PSs X [] w5:=fun _ _ σ H _ I h=>wpAny_execs_nil ⟨σ,H,I,h⟩
theorem qv (h1:PS X st t) (h2:PSs X rest u):PSs X (st::rest) (wX t u):=by
 intro pins s σ H D I h
 refine wpAny_execs_cons (thn (h1 pins s σ H {D with nx:=u D} I h) fun f s1 q=>?_)
 cases f with
 | next=>
  obtain ⟨σ',H',I',q⟩:=q
  exact h2 pins s1 σ' H' D I' q
 | ret v=>exact q
 | brk=>exact q
 | cont=>exact q
theorem sH (h1:PS X st t):PSs X [st] t:=by
 intro pins s σ H D I h
 refine wpAny_execs_cons (thn (h1 pins s σ H D I h) fun f s1 q=>?_)
 cases f with
 | next=>exact wpAny_execs_nil q
 | ret v=>exact q
 | brk=>exact q
 | cont=>exact q
theorem Inv.quiet {pins:List (Addr×Obj)} {σ:St} {H:Hp} {s:Shared} (I:Inv X pins σ H s):interactive X.env=false:=by simp [interactive,I.ok.kind]
def w9 (te:TE):TS:=fun D σ H=>te σ H fun _ H1=>D.nx σ H1
theorem sL (he:PE X e te) (hs:swapsWith e none pos.line X.env=pure false:=by rfl):PS X (.Expr e pos) (w9 te):=by
 intro pins s σ H D I h
 exact wpAny_Expr_any (thn (he pins s σ H _ I h) fun v s1 ⟨x,H1,I1,r1,q1⟩=>⟨σ,H1,I1,q1⟩) I.quiet hs
def ye (te:TE):TS:=fun D σ H=>te σ H D.rt
theorem vf (he:PE X e te):PS X (.Return (some e) pos) (ye te):=by
 intro pins s σ H D I h
 exact wpAny_Return_some (thn (he pins s σ H _ I h) fun v s1 ⟨x,H1,I1,r1,q1⟩=>⟨x,σ,H1,I1,r1,q1⟩)
def yi (c:TT) (t u:TS):TS:=fun D σ H=>c σ H fun b H1=>if b=true then t D σ H1 else u D σ H1
theorem xE {c:Expr} {a b:List Stmt} {tc:TT} (hc:PT X c tc) (ha:PSs X a t) (hb:PSs X b u):PS X (.If c a b pos) (yi tc t u):=by
 intro pins s σ H D I h
 refine wpAny_If (thn (hc pins s σ H _ I h) fun d s1 ⟨H1,I1,q1⟩=>?_)
 cases d with
 | true=>exact ha pins s1 σ H1 D I1 q1
 | false=>exact hb pins s1 σ H1 D I1 q1
end
abbrev TG:=V→St→Hp→(St→Hp→Prop)→Prop
abbrev TGs:=List V→St→Hp→(St→Hp→Prop)→Prop
def PG (X:Cx) (target:Expr) (t:TG):Prop:=
 ∀(pins:List (Addr×Obj)) (s:Shared) (σ:St) (H:Hp) (v:V) (u:Value) (Q:St→Hp→Prop),Inv X pins σ H s→RelV v u→t v σ H Q→
  wpAny (model X.prog X.w) X.A (assign target X.env u) (fun _ s'=>∃σ' H',Inv X pins σ' H' s'∧Q σ' H') X.xe s
def PGs (X:Cx) (ts:List Expr) (t:TGs):Prop:=
 ∀(pins:List (Addr×Obj)) (s:Shared) (σ:St) (H:Hp) (vs:List V) (us:List Value) (Q:St→Hp→Prop),Inv X pins σ H s→Vals vs us→t vs σ H Q→
  wpAny (model X.prog X.w) X.A (assignInOrder ((assignEach ts X.env).map (·.2)) us) (fun _ s'=>∃σ' H',Inv X pins σ' H' s'∧Q σ' H') X.xe s
abbrev wF:=V→V→V→Hp→(Hp→Prop)→Prop
def wI (X:Cx) (t:wF):Prop:=
 ∀(pins:List (Addr×Obj)) (s:Shared) (σ:St) (H:Hp) (o i v:V) (ov iv u:Value) (Q:Hp→Prop),Inv X pins σ H s→RelV o ov→RelV i iv→RelV v u→t o i v H Q→
  wpAny (model X.prog X.w) X.A (setItem ov iv u) (fun _ s'=>∃H',Inv X pins σ H' s'∧Q H') X.xe s
section
variable {X:Cx} {pos:Pos}
def mS (i:Nat):TG:=fun v σ H Q=>Q (σ.set i (some v)) H
theorem sT {i:Nat} {x:Str} (hN:X.N.Nodup) (hi:X.N[i]?=some x) (hx:Loc X.env.scope x) (hf:X.fn x=true∨X.env.scope.names.lookup x=some .local:=by first | exact .inl rfl | exact .inr rfl | assumption):PG X (.Name x pos) (mS i):=by
 intro pins s σ H v u Q I r h
 exact wpAny_assign_Name (fT I hN hi hx r (fun s' I'=>⟨_,H,I',h⟩) hf)
def yX:TGs:=fun vs σ H Q=>vs=[]∧Q σ H
def xS (t:TG) (u:TGs):TGs:=fun vs σ H Q=>∃v r,vs=v::r∧t v σ H fun σ' H'=>u r σ' H' Q
theorem sS:PGs X [] yX:=by
 intro pins s σ H vs us Q I r h
 obtain ⟨e,h⟩:=h
 subst e
 cases r
 exact assignInOrder_nil ⟨σ,H,I,h⟩
theorem qA {e:Expr} {es:List Expr} {t:TG} {u:TGs} (h1:PG X e t) (h2:PGs X es u)
  (hs:(assignEach (e::es) X.env).map (·.2)=assign e X.env::(assignEach es X.env).map (·.2):=by rfl):PGs X (e::es) (xS t u):=by
 intro pins s σ H vs us Q I r h
 obtain ⟨v,vr,e1,h⟩:=h
 subst e1
 cases r with
 | cons r rr=>
  rw [hs]
  refine assignInOrder_cons (thn (h1 pins s σ H _ _ _ I r h) fun _ s1 ⟨σ1,H1,I1,q1⟩=>?_)
  exact h2 pins s1 σ1 H1 _ _ Q I1 rr q1
def yW (K:PySem.W.Frag) (n:Nat) (t:TGs):TG:=fun v σ H Q=>∃a xs,v=.ref a∧SqT K H a xs∧xs.length=n∧t xs σ H Q
theorem vj {es:List Expr} {k:Nat} {t:TGs} {n:Nat} (hc:X.calm=true) (h:PGs X es t)
  (hn:(assignEach es X.env).length=n:=by rfl) (hst:(assignEach es X.env).findIdx? (·.1)=none:=by rfl):PG X (.Tuple es k pos) (yW X.K n t):=by
 intro pins s σ H v u Q I r hw
 obtain ⟨a,xs,e1,hq,hl,hw⟩:=hw
 subst e1
 cases r
 obtain ⟨its,rv,ht,hz⟩:=I.tuple hq
 refine assign_Tuple_tuple (I.ok.hd hc) ht (by simp [hn,←hl,rv.length]) hst fun h' hx=>?_
 have I1:Inv X pins σ H {s with heap:=h'}:=I.kept (t':=s.toks) fun b o e=>hx b o (Nat.ne_of_lt (Heap.lt_size e)) e
 exact h pins _ σ H xs _ Q I1 (by simpa using rv) hw
def jH (to ti:TE) (t:wF):TG:=fun v σ H Q=>to σ H fun o H1=>ti σ H1 fun i H2=>t o i v H2 fun H3=>Q σ H3
theorem vm {o i:Expr} {to ti:TE} {t:wF} (ho:PE X o to) (hi:PE X i ti) (hs:wI X t)
  (ha:∀v,assign (.Subscript o i pos) X.env v=(do
   let ov←holding [v] (eval o X.env)
   let iv←holding [v,ov] (eval i X.env)
   standAt pos
   holding [v,ov,iv] (setItem ov iv v)
   release [v,ov,iv] []):=by intro _;rfl):PG X (.Subscript o i pos) (jH to ti t):=by
 intro pins s σ H v u Q I r h
 rw [ha]
 refine wpAny_bind (wpAny_holding (thn (ho pins s σ H _ I h) fun ov s1 ⟨x,H1,I1,r1,q1⟩=>?_))
 refine wpAny_bind (wpAny_holding (thn (hi pins s1 σ H1 _ I1 q1) fun iv s2 ⟨y,H2,I2,r2,q2⟩=>?_))
 refine wpAny_bind (wpAny_standAt (wpAny_bind (wpAny_holding (thn (hs pins s2 σ H2 x y v ov iv u _ I2 r1 r2 r q2) fun _ s3 ⟨H3,I3,q3⟩=>?_))))
 exact wpAny_release ⟨σ,H3,I3,q3⟩
def rX (te:TE) (g:TG):TS:=fun D σ H=>te σ H fun x H1=>g x σ H1 D.nx
theorem vh {tg e:Expr} {te:TE} {g:TG} (he:PE X e te) (hg:PG X tg g) (hs:swapsWithSole [tg] e pos.line X.env=pure false:=by rfl) (hw:swappedStores [tg] e X.env=pure none:=by rfl)
  (h1:(assignEach [tg] X.env).map (·.2)=[assign tg X.env]:=by rfl):PS X (.Assign [tg] e pos) (rX te g):=by
 intro pins s σ H D I h
 refine wpAny_Assign_stores (thn (he pins s σ H _ I h) fun v s1 ⟨x,H1,I1,r1,q1⟩=>?_) hs hw
 rw [h1]
 exact thn (hg pins s1 σ H1 x v _ I1 r1 q1) fun _ s2 q=>q
theorem ve {i:Nat} {x:Str} {e:Expr} {te:TE} {pos':Pos} (hN:X.N.Nodup) (hi:X.N[i]?=some x) (hx:Loc X.env.scope x) (he:PE X e te) (hs:swapsWith e (some (.Name x pos')) pos.line X.env=pure false:=by rfl) (hf:X.fn x=true∨X.env.scope.names.lookup x=some .local:=by first | exact .inl rfl | exact .inr rfl | assumption):
  PS X (.Assign [.Name x pos'] e pos) (rX te (mS i)):=by
 intro pins s σ H D I h
 refine wpAny_Assign_Name (thn (he pins s σ H _ I h) fun v s1 ⟨y,H1,I1,r1,q1⟩=>?_) hs
 exact fT I1 hN hi hx r1 (fun s2 I2=>⟨_,H1,I2,q1⟩) hf
def wZ (i j:Nat) (ta:TA):TS:=fun D σ H=>ta σ H fun vs H1=>∃v w,vs=[v,w]∧D.nx ((σ.set i (some v)).set j (some w)) H1
theorem kU {i j:Nat} {x y:Str} {a b:Expr} {ta:TA} {px py pt:Pos} {kt k2 pt2} (hc:X.calm=true) (hN:X.N.Nodup) (hi:X.N[i]?=some x) (hj:X.N[j]?=some y) (hij:i≠j)
  (hx:X.env.scope.names.lookup x=some .local) (hy:X.env.scope.names.lookup y=some .local) (ha:PA X [a,b] ta)
  (hw:swappedStores [.Tuple [.Name x px,.Name y py] kt pt] (.Tuple [a,b] k2 pt2) X.env=pure (some [x,y]))
  (hs:swapsWithSole [.Tuple [.Name x px,.Name y py] kt pt] (.Tuple [a,b] k2 pt2) pos.line X.env=pure false:=by rfl):
  PS X (.Assign [.Tuple [.Name x px,.Name y py] kt pt] (.Tuple [a,b] k2 pt2) pos) (wZ i j ta):=by
 intro pins s σ H D I h
 rw [exec_Assign_arm]
 refine wpAny_bind (wpAny_standAt ?_)
 rw [hs]
 refine wpAny_bind (wpAny_pure ?_)
 rw [if_neg (by decide)]
 refine wpAny_bind (Tuple_ (thn (ha _ pins s σ H _ I h) fun us s1 ⟨vs,H1,I1,r1,q1⟩=>?_))
 obtain ⟨v,w,e1,q1⟩:=q1
 subst e1
 obtain ⟨u1,u2,rfl,rv,rw'⟩:∃u1 u2,us=[u1,u2]∧RelV v u1∧RelV w u2:=by
  cases r1 with
  | cons p q=>
   cases q with
   | cons p' q'=>
    cases q'
    exact ⟨_,_,rfl,p,p'⟩
 refine wpAny_newObj_type ?_ (by show 2≤sizeLine;decide)
 have I2:Inv X pins σ H1 {s1 with heap:=s1.heap.push {cls:=.type "tuple",data:=.seq [u1,u2].toArray}}:=I1.kept (t':=s1.toks) fun b o e=>Heap.get?_push_of_some _ e
 rw [hw]
 refine wpAny_bind (wpAny_pure ?_)
 show wpAny (model X.prog X.w) X.A (do rule "assign.swapped-stores";let items←unpackItems (.ref s1.heap.objs.size) 2 none;assignInOrder [fun v=>bindName X.env y v,fun v=>bindName X.env x v] items.reverse;pure Flow.next) _ _ _
 refine wpAny_bind (wpAny_rule (wpAny_bind (unpackItems_tuple (items:=#[u1,u2]) (I.ok.hd hc) (IsTup.new s1.heap _) fun h' hx'=>?_)))
 have I3:=I2.kept (h':=h') (t':=s1.toks) fun b o e=>hx' b o (Nat.ne_of_lt (Heap.lt_size e)) e
 show wpAny _ _ (assignInOrder [fun v=>bindName X.env y v,fun v=>bindName X.env x v] [u2,u1] >>=fun _=>pure Flow.next) _ _ _
 refine wpAny_bind (assignInOrder_cons (wpAny_bindName (fT I3 hN hj (.inl hy) rw' (fun s2 I4=>?_) (.inr hy))))
 refine assignInOrder_cons (wpAny_bindName (fT I4 hN hi (.inl hx) rv (fun s3 I5=>assignInOrder_nil (wpAny_pure ?_)) (.inr hx)))
 rw [List.set_comm _ _ (Ne.symm hij)] at I5
 exact ⟨_,H1,I5,q1⟩
end
section
variable {X:Cx} {pos:Pos}
end
structure It where
 go:Nat→Hp→Prop
 yld:Nat→Hp→V→Hp→Prop
 stop:Nat→Hp→Prop
def dg (X:Cx) (pins:List (Addr×Obj)) (H:Hp) (b:Addr):Prop:=
 H b=none∧b≠X.env.locals∧b∉X.fs∧(b∈X.ex∨X.s₀.heap.objs.size≤b)∧(∀x c,X.env.cells.lookup x=some c→c≠b)∧∀p∈X.pn++pins,p.1≠b
theorem Inv.lG {X:Cx} {pins:List (Addr×Obj)} {σ:St} {H H':Hp} {s:Shared} {b:Addr} (I:Inv X pins σ H s) (hb:s.heap.objs.size≤b) (hn:H' b=none):dg X pins H' b:=by
 refine ⟨hn,Nat.ne_of_gt (Nat.lt_of_lt_of_le I.lt hb),I.yL hb,.inr (Nat.le_trans I.sz hb),fun x c e z=>?_,fun p hp z=>?_⟩
 ·obtain ⟨v,q⟩:=I.cell x c e
  exact absurd (Nat.lt_of_lt_of_le q.lt (by rw [z];exact hb)) (Nat.lt_irrefl _)
 ·exact absurd (Nat.lt_of_lt_of_le (Heap.lt_size (I.pin p hp).1) (by rw [z];exact hb)) (Nat.lt_irrefl _)
structure Turn (P:Program) (w:World) (K:PySem.W.Frag) (tg:Expr) (J:It) (fp:List Addr) (it:Addr) (tn:Nat→Heap→Prop):Prop where
 mem:it∈fp
 obj:∀i h,tn i h→∀b∈fp,∃o,h.get? b=some o∧∀v,o.data≠.cell v
 keep:∀i h h',tn i h→(∀b∈fp,∀o,h.get? b=some o→h'.get? b=some o)→tn i h'
 item:∀(X:Cx),X.prog=P→X.w=w→X.K=K→X.calm=true→∀(i:Nat) (pins:List (Addr×Obj)) (s:Shared) (σ:St) (H:Hp) (E:Value→Shared→Prop),Inv X pins σ H s→(∀b∈fp,dg X pins H b)→tn i s.heap→J.go i H→
  wpAny (model P w) X.A (pyNext (.ref it)) (fun r s1=>∃u,r=some u∧
   wpAny (model P w) X.A (letOwnedTupleGo tg (.ref it) u) (fun _ s2=>∃x H',Inv X pins σ H' s2∧RelV x u∧J.yld i H x H'∧tn (i+1) s2.heap∧∀b∈fp,H' b=none) E s1) E s
 done:∀(X:Cx),X.prog=P→X.w=w→X.K=K→X.calm=true→∀(i:Nat) (pins:List (Addr×Obj)) (s:Shared) (σ:St) (H:Hp) (E:Value→Shared→Prop),Inv X pins σ H s→(∀b∈fp,dg X pins H b)→tn i s.heap→J.stop i H→
  wpAny (model P w) X.A (pyNext (.ref it)) (fun r s1=>r=none∧Inv X pins σ H s1) E s
 self:∀(A:Around) (i:Nat) (s:Shared) (Q:Value→Shared→Prop) (E:Value→Shared→Prop),tn i s.heap→Q (.ref it) s→wpAny (model P w) A (pyIter (.ref it)) Q E s
abbrev TI:=St→Hp→(It→Hp→Prop)→Prop
def PIE (X:Cx) (pins:List (Addr×Obj)) (σ:St) (tg:Expr) (R:It→Hp→Prop) (itv:Value) (s2:Shared):Prop:=
 ∃(it:Addr) (fp:List Addr) (tn:Nat→Heap→Prop) (J:It) (H':Hp),itv=.ref it∧Inv X pins σ H' s2∧Turn X.prog X.w X.K tg J fp it tn∧tn 0 s2.heap∧(∀b∈fp,dg X pins H' b)∧R J H'
def PI (X:Cx) (tg iter:Expr) (wi:TI):Prop:=
 ∀(pins:List (Addr×Obj)) (s:Shared) (σ:St) (H:Hp) (R:It→Hp→Prop),Inv X pins σ H s→wi σ H R→
  wpAny (model X.prog X.w) X.A (eval iter X.env) (fun v s1=>wpAny (model X.prog X.w) X.A (pyIter v) (PIE X pins σ tg R) X.xe s1) X.xe s
theorem qS {M:Model} {A:Around} {E:Value→Shared→Prop} {s:Shared} {tg:Expr} {it:Addr} {u:Value} {o:Obj} {n:String} {vs:Array Value} {Q:Unit→Shared→Prop} (ho:s.heap.get? it=some o) (hc:o.cls=.type n) (hd:o.data=.fields vs)
  (hn:["enumerate","zip","dict_itemiterator","dict_reverseitemiterator","odict_iterator","itertools.zip_longest","itertools.pairwise"].contains n=false) (hQ:Q () s):wpAny M A (letOwnedTupleGo tg (.ref it) u) Q E s:=by
 unfold letOwnedTupleGo
 cases tg <;> first
  | exact wpAny_pure hQ
  | (cases u <;> first
    | exact wpAny_pure hQ
    | (refine wpAny_bind (wpAny_load ho ?_);rw [hc,hd];show wpAny M A (if (["enumerate","zip","dict_itemiterator","dict_reverseitemiterator","odict_iterator","itertools.zip_longest","itertools.pairwise"].contains n&&vs[0]?==some (rawInt _))=true then _ else _) Q E s;rw [if_neg (by intro h;rw [hn,Bool.false_and] at h;cases h)];exact wpAny_pure hQ))
def Itl (K:PySem.W.Frag) (a:Addr):It:=
 ⟨fun i H=>∃xs x,SqL K H a xs∧xs[i]?=some x,fun i H x H'=>H'=H∧∀xs,SqL K H a xs→xs[i]?=some x,fun i H=>∃xs,SqL K H a xs∧xs.length≤i⟩
def Itt (K:PySem.W.Frag) (a:Addr):It:=
 ⟨fun i H=>∃xs x,SqT K H a xs∧xs[i]?=some x,fun i H x H'=>H'=H∧∀xs,SqT K H a xs→xs[i]?=some x,fun i H=>∃xs,SqT K H a xs∧xs.length≤i⟩
def Itr (lo:Int) (n:Nat):It:=⟨fun i _=>i < n,fun i H x H'=>H'=H∧x=.int (lo+i),fun i _=>n≤i⟩
theorem o2 {P:Program} {w:World} {K:PySem.W.Frag} {tg:Expr} (a it:Addr):Turn P w K tg (Itl K a) [it] it (fun i h=>h.IsListIter it a i) where
 mem:=by simp
 obj:=fun i h st b hb=>by
  have e:b=it:=by simpa using hb
  subst e
  obtain ⟨o,e,c,d⟩:=st
  exact ⟨o,e,fun v z=>by rw [d] at z;cases z⟩
 keep:=fun i h h' st k=>st.at fun o e=>k it (by simp) o e
 item:=by
  intro X hP hw hK hc i pins s σ H E I hf st hg
  subst hP hw hK
  obtain ⟨xs,x,hq,hx⟩:=hg
  obtain ⟨its,rv,p,hz⟩:=I.list hq
  obtain ⟨u,hu,ru⟩:=rv.get hx
  obtain ⟨f0,f1,f2,f3,f4,f5⟩:=hf it (by simp)
  refine wpAny_pyNext_list_item st p.isList (x:=u) (by simpa using hu) fun h' st' sb=>?_
  have I1:Inv X pins σ H {s with heap:=h'}:=I.turned (t':=s.toks) (fun b o hb e=>(sb.2 b hb).trans e) f0 f1 f3 f4 f5
  obtain ⟨o,e,c,d⟩:=id st'
  exact ⟨u,rfl,qS (s:={s with heap:=h'}) e c d (by decide) ⟨x,H,I1,ru,⟨rfl,fun ys hy=>by rw [I.mQ hy hq];exact hx⟩,st',fun b hb=>(hf b hb).1⟩⟩
 done:=by
  intro X hP hw hK hc i pins s σ H E I hf st hg
  subst hP hw hK
  obtain ⟨xs,hq,hx⟩:=hg
  obtain ⟨its,rv,p,hz⟩:=I.list hq
  obtain ⟨f0,f1,f2,f3,f4,f5⟩:=hf it (by simp)
  have hl:=rv.length
  exact wpAny_pyNext_list_end (I.ok.hd hc) st p.isList (by simp;omega) fun h' eb=>⟨rfl,I.turned (t':=s.toks) (fun b o hb e=>eb b o hb e) f0 f1 f3 f4 f5⟩
 self:=fun _ _ _ _ _ st h=>wpAny_pyIter_listiter st h
theorem nz {P:Program} {w:World} {K:PySem.W.Frag} {tg:Expr} (a it:Addr):Turn P w K tg (Itt K a) [it] it (fun i h=>h.IsTupleIter it a i) where
 mem:=by simp
 obj:=fun i h st b hb=>by
  have e:b=it:=by simpa using hb
  subst e
  obtain ⟨o,e,c,d⟩:=st
  exact ⟨o,e,fun v z=>by rw [d] at z;cases z⟩
 keep:=fun i h h' st k=>st.at fun o e=>k it (by simp) o e
 item:=by
  intro X hP hw hK hc i pins s σ H E I hf st hg
  subst hP hw hK
  obtain ⟨xs,x,hq,hx⟩:=hg
  obtain ⟨its,rv,p,hz⟩:=I.tuple hq
  obtain ⟨u,hu,ru⟩:=rv.get hx
  obtain ⟨f0,f1,f2,f3,f4,f5⟩:=hf it (by simp)
  refine wpAny_pyNext_tuple_item st (show s.heap.IsTuple a its.toArray from p) (x:=u) (by simpa using hu) fun h' st' sb=>?_
  have I1:Inv X pins σ H {s with heap:=h'}:=I.turned (t':=s.toks) (fun b o hb e=>(sb.2 b hb).trans e) f0 f1 f3 f4 f5
  obtain ⟨o,e,c,d⟩:=id st'
  exact ⟨u,rfl,qS (s:={s with heap:=h'}) e c d (by decide) ⟨x,H,I1,ru,⟨rfl,fun ys hy=>by rw [I.jS hy hq];exact hx⟩,st',fun b hb=>(hf b hb).1⟩⟩
 done:=by
  intro X hP hw hK hc i pins s σ H E I hf st hg
  subst hP hw hK
  obtain ⟨xs,hq,hx⟩:=hg
  obtain ⟨its,rv,p,hz⟩:=I.tuple hq
  obtain ⟨f0,f1,f2,f3,f4,f5⟩:=hf it (by simp)
  have hl:=rv.length
  exact wpAny_pyNext_tuple_end (I.ok.hd hc) st (show s.heap.IsTuple a its.toArray from p) (by simp;omega) fun h' eb=>⟨rfl,I.turned (t':=s.toks) (fun b o hb e=>eb b o hb e) f0 f1 f3 f4 f5⟩
 self:=fun _ _ _ _ _ st h=>wpAny_pyIter_tupleiter st h
theorem nA {P:Program} {w:World} {K:PySem.W.Frag} {tg:Expr} (it:Addr) (lo:Int) (n:Nat):Turn P w K tg (Itr lo n) [it] it (fun i h=>IsRangeIter h it (lo+(i:Nat)*1) ((n:Int)-(i:Nat)) 1) where
 mem:=by simp
 obj:=fun i h st b hb=>by
  have e:b=it:=by simpa using hb
  subst e
  exact ⟨_,st,fun v z=>by
   have z':Data.fields _=Data.cell v:=z
   cases z'⟩
 keep:=fun i h h' st k=>k it (by simp) _ st
 item:=by
  intro X hP hw hK hc i pins s σ H E I hf st hg
  subst hP hw hK
  obtain ⟨f0,f1,f2,f3,f4,f5⟩:=hf it (by simp)
  have W:=Walks.range (prog:=X.prog) (w:=X.w) (I.ok.hd hc) it lo 1 n
  refine W.item i s _ _ hg st fun v h' tk hv st' kk=>?_
  obtain ⟨t,rfl⟩:=hv
  have I1:Inv X pins σ H {s with heap:=h',toks:=tk}:=I.turned (fun b o hb e=>kk b o (by simpa using hb) e) f0 f1 f3 f4 f5
  refine ⟨_,rfl,qS (s:={s with heap:=h',toks:=tk}) (n:="range_iterator") st' rfl rfl (by decide) ⟨.int (lo+i),H,I1,⟨t,?_⟩,⟨rfl,rfl⟩,st',fun b hb=>(hf b hb).1⟩⟩
  rw [Int.mul_one]
 done:=by
  intro X hP hw hK hc i pins s σ H E I hf st hg
  subst hP hw hK
  obtain ⟨f0,f1,f2,f3,f4,f5⟩:=hf it (by simp)
  exact wpAny_pyNext_range_end (I.ok.hd hc) st (by have:n≤i:=hg;omega) fun h' eb=>⟨rfl,I.turned (t':=s.toks) (fun b o hb e=>eb b o hb e) f0 f1 f3 f4 f5⟩
 self:=fun _ _ _ _ _ st h=>wpAny_pyIter_rangeiter st h
end L2
namespace L2
open PySem PySem.Spec PyProof.Rows
section
variable {X:Cx} {tg:Expr}
theorem qo {pins:List (Addr×Obj)} {σ:St} {H:Hp} {s:Shared} {R:It→Hp→Prop} {E:Value→Shared→Prop} {lo hi:Int} {t u v:Tok} {tk:Nat} (I:Inv X pins σ H s) (h1:-(2^62)≤lo) (h2:lo < 2^62) (h3:-(2^62)≤hi) (h4:hi < 2^62)
  (q:R (Itr lo (hi-lo).toNat) H):wpAny (model X.prog X.w) X.A (pyIter (.ref s.heap.objs.size)) (PIE X pins σ tg R) E {s with heap:=s.heap.push {cls:=.type "range",data:=.fields #[.int lo t,.int hi u,.int 1 v]},toks:=tk}:=by
 refine wpAny_pyIter_range (IsRange.new ..) (small_one h1 h2 h3 h4) ?_
 have I1:Inv X pins σ H {s with heap:=s.heap.push {cls:=.type "range",data:=.fields #[.int lo t,.int hi u,.int 1 v]},toks:=tk}:=I.kept fun b o e=>Heap.get?_push_of_some _ e
 refine ⟨(s.heap.push {cls:=.type "range",data:=.fields #[.int lo t,.int hi u,.int 1 v]}).objs.size,[(s.heap.push {cls:=.type "range",data:=.fields #[.int lo t,.int hi u,.int 1 v]}).objs.size],_,_,H,rfl,
  I1.kept (t':=tk) fun b o e=>Heap.get?_push_of_some _ e,nA _ lo (hi-lo).toNat,?_,fun b hb=>?_,q⟩
 ·have e1:lo+((0:Nat):Int)*1=lo:=by simp
  have e2:(((hi-lo).toNat:Nat):Int)-((0:Nat):Int)=Builtin.Range.rangeSize lo hi 1:=by rw [rangeSize_one];split <;> omega
  show IsRangeIter _ _ (lo+((0:Nat):Int)*1) ((((hi-lo).toNat:Nat):Int)-((0:Nat):Int)) 1
  rw [e1,e2]
  exact Heap.get?_push_size _ rfl
 ·have e:b=(s.heap.push {cls:=.type "range",data:=.fields #[.int lo t,.int hi u,.int 1 v]}).objs.size:=by simpa using hb
  subst e
  exact I1.lG (Nat.le_refl _) (I1.hok.fresh (Nat.le_refl _))
def xR (ta:TA):TI:=fun σ H R=>ta σ H fun vs H1=>∃j:Int,vs=[.int j]∧-(2^62)≤j∧j < 2^62∧R (Itr 0 j.toNat) H1
theorem pf {a:Expr} {ta:TA} {p pos:Pos} (hg:Gl X "range") (hm:X.mg "range"=none) (ha:PA X [a] ta) (hs:starEach [a] X.env=[(false,eval a X.env)]:=by rfl):PI X tg (.Call (.Name "range" p) [a] [] pos) (xR ta):=by
 intro pins s σ H R I h
 refine Call_ (c8 I hg hm boot_range (PyProof.Rows.callWith_type1 (thn (ha pos pins s σ H _ I h) fun us s1 ⟨vs,H1,I1,r1,q1⟩=>?_) hs rfl))
 obtain ⟨j,e,q1,q2,q⟩:=q1
 subst e
 cases r1 with
 | cons r rr=>
  cases rr
  obtain ⟨t,rfl⟩:=r
  exact call_range_1 (qo I1 (by omega) (by omega) q1 q2 (by simpa using q))
def w6 (wi:TI) (g:TG) (tb:TS):TS:=fun D σ H=>wi σ H fun J H1=>∃W:Nat→Nat→St→Hp→Prop,(∃m,W 0 m σ H1)∧∀i m σ H,W i m σ H→
 (J.stop i H∧D.nx σ H)∨(J.go i H∧∃N:St→Hp→Prop,(∀σ' H',N σ' H'→∃m',m' < m∧W (i+1) m' σ' H')∧∀x H',J.yld i H x H'→g x σ H' fun σ2 H2=>tb {D with nx:=N,ct:=N,bk:=D.nx} σ2 H2)
def iP (fp:List Addr) (h:Heap):List (Addr×Obj):=fp.filterMap fun b=>(h.get? b).map fun o=>(b,o)
theorem eg {fp:List Addr} {h:Heap} {b:Addr} {o:Obj} (hb:b∈fp) (e:h.get? b=some o):(b,o)∈iP fp h:=List.mem_filterMap.mpr ⟨b,hb,by rw [e];rfl⟩
theorem pj {fp:List Addr} {h:Heap} {p:Addr×Obj} (hp:p∈iP fp h):p.1∈fp∧h.get? p.1=some p.2:=by
 obtain ⟨b,hb,e⟩:=List.mem_filterMap.mp hp
 cases q:h.get? b with
 | none=>rw [q] at e;cases e
 | some o=>
  rw [q] at e
  have e':(b,o)=p:=Option.some.inj e
  subst e'
  exact ⟨hb,q⟩
theorem Inv.pinned {pins:List (Addr×Obj)} {σ:St} {H:Hp} {s:Shared} {fp:List Addr} (I:Inv X pins σ H s) (hf:∀b∈fp,dg X pins H b) (ho:∀b∈fp,∃o,s.heap.get? b=some o∧∀v,o.data≠.cell v):Inv X (pins++iP fp s.heap) σ H s:=
 I.oK fun p hp=>(List.mem_append.mp hp).elim (fun z=>I.pin p (List.mem_append_right _ z)) fun z=>by
  obtain ⟨hb,e⟩:=pj z
  obtain ⟨f0,f1,f2,_⟩:=hf p.1 hb
  obtain ⟨o,e',d⟩:=ho p.1 hb
  rw [e] at e';cases e'
  exact ⟨e,f0,f1,f2,d⟩
theorem Inv.fS {pins pl:List (Addr×Obj)} {σ:St} {H:Hp} {s:Shared} (I:Inv X (pins++pl) σ H s):Inv X pins σ H s:=I.oK fun p hp=>I.pin p (List.mem_append_right _ (List.mem_append_left _ hp))
theorem vg {iter:Expr} {body:List Stmt} {wi:TI} {g:TG} {tb:TS} {pos:Pos} (hp:PassesOwn (model X.prog X.w) X.A X.env X.xe) (hc:X.calm=true) (hi:PI X tg iter wi) (hg:PG X tg g) (hb:PSs X body tb)
  (hs:∀x,foldedSetIterable iter X.env x=pure x:=by intro _;rfl):PS X (.For tg iter body [] pos) (w6 wi g tb):=by
 intro pins s σ H D I h
 refine wpAny_For (thn (hi pins s σ H _ I h) fun v s1 h1=>thn h1 fun itv s2 h2=>?_) hs
 obtain ⟨it,fp,tn,J,H2,e,I2,T,st2,f2,W,⟨m0,w0⟩,turn⟩:=h2
 subst e
 have stat:∀{H':Hp},(∀b∈fp,H' b=none)→∀b∈fp,dg X pins H' b:=fun hn b hb=>⟨hn b hb,(f2 b hb).2⟩
 refine codeAny_forLoop_any (fun n s'=>∃i σ' H',Inv X pins σ' H' s'∧tn i s'.heap∧(∀b∈fp,H' b=none)∧W i n σ' H') ?_ m0 ⟨0,σ,H2,I2,st2,fun b hb=>(f2 b hb).1,w0⟩
 rintro n s3 ⟨i,σ3,H3,I3,st3,fr3,w3⟩
 rcases turn i n σ3 H3 w3 with ⟨stop,qn⟩ | ⟨go,N,hN,step⟩
 ·refine wpAny_passesOwn hp (thn (T.done X rfl rfl rfl hc i pins s3 σ3 H3 X.xe I3 (stat fr3) st3 stop) fun r s4 ⟨hr,I4⟩=>?_)
  subst hr
  exact wpAny_execs_nil ⟨σ3,H3,I4,qn⟩
 ·refine wpAny_passesOwn hp (thn (T.item X rfl rfl rfl hc i pins s3 σ3 H3 X.xe I3 (stat fr3) st3 go) fun r s4 ⟨u,hr,h4⟩=>?_)
  subst hr
  refine wpAny_passesOwn hp (thn h4 fun _ s5 ⟨x,H5,I5,r5,y5,st5,fr5⟩=>?_)
  have I5':=I5.pinned (stat fr5) (T.obj _ _ st5)
  refine wpAny_passesOwn hp (thn (hg _ s5 σ3 H5 x u _ I5' r5 (step x H5 y5)) fun _ s6 ⟨σ6,H6,I6,q6⟩=>?_)
  refine wpAny_passesOwn hp (thn (hb _ s6 σ6 H6 _ I6 q6) fun f s7 q7=>?_)
  have again:∀{σ7:St} {H7:Hp},Inv X (pins++iP fp s5.heap) σ7 H7 s7→N σ7 H7→∃m,m < n∧∃i σ' H',Inv X pins σ' H' s7∧tn i s7.heap∧(∀b∈fp,H' b=none)∧W i m σ' H':=fun {σ7 H7} I7 n7=>by
   obtain ⟨m',hm,w7⟩:=hN σ7 H7 n7
   refine ⟨m',hm,i+1,σ7,H7,I7.fS,T.keep _ _ _ st5 fun b hb o e=>(I7.pin (b,o) (List.mem_append_right _ (List.mem_append_right _ (eg hb e)))).1,fun b hb=>?_,w7⟩
   obtain ⟨o,e,d⟩:=T.obj _ _ st5 b hb
   exact (I7.pin (b,o) (List.mem_append_right _ (List.mem_append_right _ (eg hb e)))).2.1
  cases f with
  | next=>obtain ⟨σ7,H7,I7,n7⟩:=q7;exact again I7 n7
  | cont=>obtain ⟨σ7,H7,I7,n7⟩:=q7;exact again I7 n7
  | brk=>obtain ⟨σ7,H7,I7,q7⟩:=q7;exact ⟨σ7,H7,I7.fS,q7⟩
  | ret v=>obtain ⟨x7,σ7,H7,I7,r7,q7⟩:=q7;exact ⟨x7,σ7,H7,I7.fS,r7,q7⟩
end
end L2
namespace L2
open PySem PySem.Spec PyProof.Rows
abbrev R2:=V→V→Hp→VK→Prop
def OpR (X:Cx) (f:Value→Value→Sem Value) (r:R2):Prop:=
 ∀(pins:List (Addr×Obj)) (s:Shared) (σ:St) (H:Hp) (x y:V) (v u:Value) (Q:VK),Inv X pins σ H s→RelV x v→RelV y u→r x y H Q→
  wpAny (model X.prog X.w) X.A (f v u) (EP X pins σ Q) X.xe s
def UnR (X:Cx) (f:Value→Sem Value) (r:V→Hp→VK→Prop):Prop:=
 ∀(pins:List (Addr×Obj)) (s:Shared) (σ:St) (H:Hp) (x:V) (v:Value) (Q:VK),Inv X pins σ H s→RelV x v→r x H Q→
  wpAny (model X.prog X.w) X.A (f v) (EP X pins σ Q) X.xe s
def cW (X:Cx) (f:Value) (r:List V→Hp→VK→Prop):Prop:=
 ∀(pins:List (Addr×Obj)) (s:Shared) (σ:St) (H:Hp) (xs:List V) (us:List Value) (Q:VK),Inv X pins σ H s→Vals xs us→r xs H Q→
  wpAny (model X.prog X.w) X.A (call f us) (EP X pins σ Q) X.xe s
def y7 (X:Cx) (r:V→Hp→(Bool→Hp→Prop)→Prop):Prop:=
 ∀(pins:List (Addr×Obj)) (s:Shared) (σ:St) (H:Hp) (x:V) (v:Value) (Q:Bool→Hp→Prop),Inv X pins σ H s→RelV x v→r x H Q→
  wpAny (model X.prog X.w) X.A (truthy v) (TP X pins σ Q) X.xe s
def tOp (r:R2) (ta tb:TE):TE:=fun σ H Q=>ta σ H fun x H1=>tb σ H1 fun y H2=>r x y H2 Q
def tUn (r:V→Hp→VK→Prop) (ta:TE):TE:=fun σ H Q=>ta σ H fun x H1=>r x H1 Q
def rI (C:Int→Int→Prop) (g:Int→Int→V):R2:=fun x y H Q=>∃i j,x=.int i∧y=.int j∧C i j∧Q (g i j) H
def rI0 (g:Int→Int→V):R2:=fun x y H Q=>∃i j,x=.int i∧y=.int j∧Q (g i j) H
def rU (g:Int→V):V→Hp→VK→Prop:=fun x H Q=>∃i,x=.int i∧Q (g i) H
section
variable {X:Cx} {a b c:Expr} {ta tb tc:TE} {pos:Pos}
theorem wz (ha:PE X a ta) (hb:PE X b tb) {pins:List (Addr×Obj)} {s:Shared} {σ:St} {H:Hp} {R:V→V→Hp→Prop} (I:Inv X pins σ H s)
  (h:ta σ H fun x H1=>tb σ H1 fun y H2=>R x y H2) {Q:Value→Shared→Prop} {f:Value→Value→Sem Value}
  (hf:∀v u s2 x y H2,Inv X pins σ H2 s2→RelV x v→RelV y u→R x y H2→wpAny (model X.prog X.w) X.A (f v u) Q X.xe s2):
  wpAny (model X.prog X.w) X.A (eval a X.env) (fun v s₁=>wpAny (model X.prog X.w) X.A (eval b X.env) (fun u s₂=>wpAny (model X.prog X.w) X.A (f v u) Q X.xe s₂) X.xe s₁) X.xe s:=by
 refine thn (ha pins s σ H _ I h) fun v s1 ⟨x,H1,I1,r1,q1⟩=>?_
 refine thn (hb pins s1 σ H1 _ I1 q1) fun u s2 ⟨y,H2,I2,r2,q2⟩=>?_
 exact hf v u s2 x y H2 I2 r1 r2 q2
theorem uf {op:Operator} {r:R2} (ho:OpR X (binaryOp op) r) (ha:PE X a ta) (hb:PE X b tb):PE X (.BinOp a op b pos) (tOp r ta tb):=by
 intro pins s σ H Q I h
 exact wpAny_BinOp (wz ha hb I h fun v u s2 x y H2 I2 rx ry q=>ho pins s2 σ H2 x y v u Q I2 rx ry q)
theorem xF {op:UnaryOp} {r:V→Hp→VK→Prop} (ho:UnR X (unaryOp op) r) (ha:PE X a ta):PE X (.UnaryOp op a pos) (tUn r ta):=by
 intro pins s σ H Q I h
 exact UnaryOp_ (thn (ha pins s σ H _ I h) fun v s1 ⟨x,H1,I1,r1,q1⟩=>ho pins s1 σ H1 x v Q I1 r1 q1)
theorem opI {f:Value→Value→Sem Value} {C:Int→Int→Prop} {g:Int→Int→Int}
  (rule:∀(i j:Int) (t u:Tok) (s:Shared) (Q:Value→Shared→Prop) (E:Value→Shared→Prop),C i j→Q (.int (g i j) s.toks) {s with toks:=s.toks+1}→wpAny (model X.prog X.w) X.A (f (.int i t) (.int j u)) Q E s):
  OpR X f (rI C fun i j=>.int (g i j)):=by
 intro pins s σ H x y v u Q I rx ry h
 obtain ⟨i,j,rfl,rfl,hc,q⟩:=h
 obtain ⟨t,rfl⟩:=rx
 obtain ⟨t',rfl⟩:=ry
 exact rule i j t t' s _ _ hc ⟨.int (g i j),H,I.tok _,⟨_,rfl⟩,q⟩
theorem xO {f:Value→Value→Sem Value} {g:Int→Int→Int}
  (rule:∀(i j:Int) (t u:Tok) (s:Shared) (Q:Value→Shared→Prop) (E:Value→Shared→Prop),Q (.int (g i j) s.toks) {s with toks:=s.toks+1}→wpAny (model X.prog X.w) X.A (f (.int i t) (.int j u)) Q E s):
  OpR X f (rI0 fun i j=>.int (g i j)):=by
 intro pins s σ H x y v u Q I rx ry h
 obtain ⟨i,j,rfl,rfl,q⟩:=h
 obtain ⟨t,rfl⟩:=rx
 obtain ⟨t',rfl⟩:=ry
 exact rule i j t t' s _ _ ⟨.int (g i j),H,I.tok _,⟨_,rfl⟩,q⟩
theorem vM {f:Value→Value→Sem Value} {g:Int→Int→Bool}
  (rule:∀(i j:Int) (t u:Tok) (s:Shared) (Q:Value→Shared→Prop) (E:Value→Shared→Prop),Q (.bool (g i j)) s→wpAny (model X.prog X.w) X.A (f (.int i t) (.int j u)) Q E s):
  OpR X f (rI0 fun i j=>.bl (g i j)):=by
 intro pins s σ H x y v u Q I rx ry h
 obtain ⟨i,j,rfl,rfl,q⟩:=h
 obtain ⟨t,rfl⟩:=rx
 obtain ⟨t',rfl⟩:=ry
 exact rule i j t t' s _ _ ⟨.bl (g i j),H,I,rfl,q⟩
def y8 (i j:Int):Prop:=0≤j∧j≤1000000∧i.natAbs < 2^64
def wJ (i j:Int):Prop:=(-(2^64) < i∧i < 2^64)∨(-(2^64) < j∧j < 2^64)
theorem wJ.ok {i j:Int} (h:wJ i j):IntMulOk i j:=by
 rcases h with ⟨h1,h2⟩ | ⟨h1,h2⟩
 ·exact .of_left (intBits_le_64 h1 h2)
 ·exact .of_right (intBits_le_64 h1 h2)
theorem vL:OpR X (binaryOp .Add) (rI0 fun i j=>.int (i+j)):=xO fun _ _ _ _ _ _ _ q=>add_int q
theorem vF:OpR X (binaryOp .Sub) (rI0 fun i j=>.int (i-j)):=xO fun _ _ _ _ _ _ _ q=>sub_int q
theorem vI:OpR X (binaryOp .Mult) (rI wJ fun i j=>.int (i*j)):=opI fun _ _ _ _ _ _ _ hc q=>mul_int q hc.ok
theorem vJ:OpR X (binaryOp .Mod) (rI (fun _ j=>0 < j) fun i j=>.int (i % j)):=opI fun i j _ _ _ _ _ hc q=>by
 have h1:(0:Int) < j:=hc
 exact mod_int' (by omega) (by rw [Int.fmod_eq_emod_of_nonneg i (by omega)];exact q)
theorem vH:OpR X (binaryOp .Pow) (rI y8 fun i j=>.int (i^j.toNat)):=opI fun _ _ _ _ _ _ _ hc q=>pow_int_small hc.1 hc.2.1 hc.2.2 q
theorem unI {f:Value→Sem Value} {g:Int→Int}
  (rule:∀(i:Int) (t:Tok) (s:Shared) (Q:Value→Shared→Prop) (E:Value→Shared→Prop),Q (.int (g i) s.toks) {s with toks:=s.toks+1}→wpAny (model X.prog X.w) X.A (f (.int i t)) Q E s):
  UnR X f (rU fun i=>.int (g i)):=by
 intro pins s σ H x v Q I rx h
 obtain ⟨i,rfl,q⟩:=h
 obtain ⟨t,rfl⟩:=rx
 exact rule i t s _ _ ⟨.int (g i),H,I.tok _,⟨_,rfl⟩,q⟩
theorem uw:UnR X (unaryOp .USub) (rU fun i=>.int (-i)):=unI fun _ _ _ _ _ q=>neg_int q
end
section
variable {X:Cx} {a b c:Expr} {ta tb tc:TE} {pos:Pos}
theorem wj {pins:List (Addr×Obj)} {σ:St} {H:Hp} {s:Shared} {Q:VK} {k k':Bool} (I:Inv X pins σ H s) (q:Q (.bl k) H) (e:k=k'):EP X pins σ Q (.bool k') s:=by
 subst e
 exact ⟨.bl k,H,I,rfl,q⟩
theorem xK:OpR X (compareOp .Lt) (rI0 fun i j=>.bl (decide (i < j))):=vM fun _ _ _ _ _ _ _ q=>lt_int q
theorem xM:OpR X (compareOp .Gt) (rI0 fun i j=>.bl (decide (j < i))):=vM fun _ _ _ _ _ _ _ q=>gt_int q
theorem xN:OpR X (compareOp .GtE) (rI0 fun i j=>.bl (decide (j≤i))):=vM fun _ _ _ _ _ _ _ q=>ge_int q
theorem vK:OpR X (compareOp .Is) (fun x y H Q=>y=.non∧Q (.bl (decide (x=.non))) H):=by
 intro pins s σ H x y v u Q I rx ry h
 obtain ⟨rfl,q⟩:=h
 cases ry
 refine is_none_gen (wj I q ?_)
 cases x <;> first
  | (cases rx;rfl)
  | (obtain ⟨t,rfl⟩:=rx;rfl)
theorem aF (b:Expr) {op:CmpOp} (h:op≠.In:=by decide) (h2:op≠.NotIn:=by decide):behindInMarks op b=false:=by
 have e1:(op==CmpOp.In)=false:=by cases op <;> first | rfl | exact absurd rfl h
 have e2:(op==CmpOp.NotIn)=false:=by cases op <;> first | rfl | exact absurd rfl h2
 cases b <;> simp [behindInMarks,e1,e2]
theorem sW {op:CmpOp} {r:R2} (ho:OpR X (compareOp op) r) (ha:PE X a ta) (hb:PE X b tb) (hm:behindInMarks op b=false):PE X (.Compare a [op] [b] pos) (tOp r ta tb):=by
 intro pins s σ H Q I h
 exact wpAny_Compare1 (wz ha hb I h fun v u s2 x y H2 I2 rx ry q=>ho pins s2 σ H2 x y v u Q I2 rx ry q) hm
def wW (t:TE):TT:=fun σ H Q=>t σ H fun x H'=>∃k,x=.bl k∧Q k H'
theorem sG {op:CmpOp} {r:R2} (ho:OpR X (compareOp op) r) (ha:PE X a ta) (hb:PE X b tb) (hm:behindInMarks op b=false):PT X (.Compare a [op] [b] pos) (wW (tOp r ta tb)):=by
 intro pins s σ H Q I h
 refine wpAny_isTrue_Compare1 (thn (ha pins s σ H _ I h) fun v s1 ⟨x,H1,I1,r1,q1⟩=>thn (hb pins s1 σ H1 _ I1 q1) fun u s2 ⟨y,H2,I2,r2,q2⟩=>
  thn (ho pins s2 σ H2 x y v u _ I2 r1 r2 q2) fun c s3 ⟨z,H3,I3,r3,k,e,q3⟩=>?_) hm
 subst e
 cases r3
 exact wpAny_truthy_bool ⟨H3,I3,q3⟩
def wD (K:PySem.W.Frag) (x:V) (H:Hp) (k:Bool):Prop:=
 match x with
 | .non=>k=false
 | .bl b=>k=b
 | .int i=>k=(i !=0)
 | .str y=>y.length≤sizeLine∧k=((y.length:Int) !=0)
 | .byt y=>y.size≤sizeLine∧k=((y.size:Int) !=0)
 | .ref p=>(∃xs,SqL K H p xs∧k=!xs.isEmpty)∨(∃xs,SqT K H p xs∧k=!xs.isEmpty)∨∃kvs,H p=some (.dK kvs)∧k=!kvs.isEmpty
 | _=>False
theorem nR {κ:Type} {kvs:List (κ×V)} {vs:List (κ×Value)} (r:KV kvs vs):(!vs.isEmpty)=!kvs.isEmpty:=by
 cases r <;> rfl
theorem i5 {xs:List V} {its:List Value} (r:Vals xs its):(!its.toArray.isEmpty)=!xs.isEmpty:=by
 cases r <;> simp
theorem fK:(sizeLine:Nat) < 2^63:=by rw [sizeLine_eq];decide
theorem uA:y7 X (fun x H Q=>∃k,wD X.K x H k∧Q k H):=by
 intro pins s σ H x v Q I rx h
 obtain ⟨k,e,q⟩:=h
 have hl:=fK
 have hs:sizeLine=16777216:=sizeLine_eq
 cases x with
 | non=>
  cases rx
  have e':k=false:=e
  subst e'
  exact truthy_none ⟨H,I,q⟩
 | bl b=>
  cases rx
  have e':k=b:=e
  subst e'
  exact wpAny_truthy_bool ⟨H,I,q⟩
 | int i=>
  obtain ⟨t,rfl⟩:=rx
  have e':k=(i !=0):=e
  subst e'
  exact PySem.P.truthy_int ⟨H,I,q⟩
 | str y=>
  obtain ⟨t,rfl⟩:=rx
  obtain ⟨hy,e'⟩:y.length≤sizeLine∧k=((y.length:Int) !=0):=e
  subst e'
  exact PySem.P.truthy_str (by omega) ⟨H,I.tok _,q⟩
 | byt y=>
  obtain ⟨t,rfl⟩:=rx
  obtain ⟨hy,e'⟩:y.size≤sizeLine∧k=((y.size:Int) !=0):=e
  subst e'
  exact PySem.W.truthy_bytes (by omega) ⟨H,I.tok _,q⟩
 | ref p=>
  cases rx
  have e':(∃xs,SqL X.K H p xs∧k=!xs.isEmpty)∨(∃xs,SqT X.K H p xs∧k=!xs.isEmpty)∨∃kvs,H p=some (.dK kvs)∧k=!kvs.isEmpty:=e
  rcases e' with ⟨xs,hx,e'⟩ | ⟨xs,hx,e'⟩ | ⟨kvs,hx,e'⟩
  ·subst e'
   obtain ⟨its,r,pl,hz⟩:=I.list hx
   have hlen:=r.length
   exact wpAny_truthy_list pl.isList (by simp only [List.size_toArray];omega) ⟨H,I.tok _,by rw [i5 r];exact q⟩
  ·subst e'
   obtain ⟨its,r,pl,hz⟩:=I.tuple hx
   have hlen:=r.length
   exact truthy_tuple pl (by simp only [List.size_toArray];omega) ⟨H,I.tok _,by rw [i5 r];exact q⟩
  ·subst e'
   obtain ⟨hz,hS,vs,r,m⟩:kvs.length≤sizeLine∧(p==sysModules)=false∧∃vs,KV kvs vs∧s.heap.DictOf (aW X.prog X.w) p vs:=I.hok p _ hx
   have hlen:kvs.length=vs.length:=Paired.length r
   exact wpAny_truthy_dict hS m (by omega) ⟨H,I.tok _,by rw [nR r];exact q⟩
 | _=>exact (show False from e).elim
theorem qu (ha:PE X a ta) (he:∀whole,isTrue a X.env whole=(do let v←whole;standAt a.pos;holding [v] (truthy v))):
  PT X a (fun σ H Q=>ta σ H fun x H'=>∃k,wD X.K x H' k∧Q k H'):=by
 intro pins s σ H Q I h
 exact isTrue_plain (thn (ha pins s σ H _ I h) fun v s1 ⟨x,H1,I1,r1,q1⟩=>uA pins s1 σ H1 x v Q I1 r1 q1) (he _)
theorem nI:OpR X (binaryOp .Add) (fun x y H Q=>∃i j,x=.str i∧y=.str j∧i.length+j.length≤sizeLine∧Q (.str (i++j)) H):=by
 intro pins s σ H x y v u Q I rx ry h
 obtain ⟨i,j,rfl,rfl,hz,q⟩:=h
 obtain ⟨t,rfl⟩:=rx
 obtain ⟨t',rfl⟩:=ry
 exact add_str (fun t' tk=>⟨.str (i++j),H,I.tok _,⟨_,rfl⟩,q⟩) hz
theorem vals1 {x:V} {us:List Value} (r:Vals [x] us):∃u,us=[u]∧RelV x u:=by
 cases r with
 | cons r1 r2=>cases r2;exact ⟨_,rfl,r1⟩
theorem vals2 {x y:V} {us:List Value} (r:Vals [x,y] us):∃u w',us=[u,w']∧RelV x u∧RelV y w':=by
 cases r with
 | cons r1 r2=>
  cases r2 with
  | cons r3 r4=>cases r4;exact ⟨_,_,rfl,r1,r3⟩
theorem rD:cW X (.builtin "abs") (fun xs H Q=>∃i,xs=[.int i]∧Q (.int (if i < 0 then -i else i)) H):=by
 intro pins s σ H xs us Q I r h
 obtain ⟨i,rfl,q⟩:=h
 obtain ⟨u,rfl,t,rfl⟩:=vals1 r
 exact call_abs_int fun u tk=>⟨.int (if i < 0 then -i else i),H,I.tok _,⟨_,rfl⟩,q⟩
theorem pV (hc:X.calm=true):cW X (.builtin "max") (fun xs H Q=>∃i j,xs=[.int i,.int j]∧Q (.int (if j > i then j else i)) H):=by
 intro pins s σ H xs us Q I r h
 obtain ⟨i,j,rfl,q⟩:=h
 obtain ⟨u,w',rfl,⟨t,rfl⟩,⟨t',rfl⟩⟩:=vals2 r
 refine max_two_ints (I.ok.hd hc) fun h' tk k=>⟨_,H,I.kept k,?_,q⟩
 by_cases hj:j > i
 ·rw [if_pos hj,if_pos hj];exact ⟨_,rfl⟩
 ·rw [if_neg hj,if_neg hj];exact ⟨_,rfl⟩
theorem pU (hc:X.calm=true):cW X (.builtin "min") (fun xs H Q=>∃i j,xs=[.int i,.int j]∧Q (.int (if j < i then j else i)) H):=by
 intro pins s σ H xs us Q I r h
 obtain ⟨i,j,rfl,q⟩:=h
 obtain ⟨u,w',rfl,⟨t,rfl⟩,⟨t',rfl⟩⟩:=vals2 r
 refine min_two_ints (I.ok.hd hc) fun h' tk k=>⟨_,H,I.kept k,?_,q⟩
 by_cases hj:j < i
 ·rw [if_pos hj,if_pos hj];exact ⟨_,rfl⟩
 ·rw [if_neg hj,if_neg hj];exact ⟨_,rfl⟩
end
end L2
namespace L2
open PySem PySem.Spec PyProof.Rows
structure ObjM (h:Heap) (x dx C:Addr) (mA:Str→Option Value):Prop where
 obj:h.get? x=some (PySem.W.instObj C dx)
 ns:h.Ns1 dx mA
 ne:dx≠x
theorem pv {h:Heap} {dx:Addr} {mA:Str→Option Value} (n:h.Ns1 dx mA):∃od,h.get? dx=some od∧∀name,PySem.W.lookIn name od=some (mA name):=by
 obtain ⟨o,es,ep,ho,hd,hk,_,hm⟩:=n
 refine ⟨o,ho,fun name=>?_⟩
 have e:=hm name
 unfold nsFind findBy at e
 rw [←Array.find?_toList] at e
 unfold PySem.W.lookIn
 rw [hd]
 dsimp only
 split
 ·rename_i y q
  rw [q] at e
  exact congrArg some e
 ·rename_i q
  rw [q] at e
  have a:es.toList.any (·.refKey)=false:=by
   rw [List.any_eq_false]
   intro y hy
   obtain ⟨z,t,hkey⟩:=hk y (Array.mem_toList_iff.mp hy)
   simp [DictEntry.refKey,hkey]
  have a':¬es.toList.any (·.refKey)=true:=by rw [a];exact Bool.false_ne_true
  rw [if_neg a']
  exact congrArg some e
theorem ObjM.look {h:Heap} {x dx C:Addr} {mA:Str→Option Value} (I:ObjM h x dx C mA):∃od,PySem.W.InstAt h x (PySem.W.instObj C dx) C (some od)∧∀name,PySem.W.lookIn name od=some (mA name):=
 let ⟨od,ho,hl⟩:=pv I.ns
 ⟨od,⟨I.obj,rfl,rfl,ho⟩,hl⟩
section
variable {prog:Program} {w:World} {A:Around} {E:Value→Shared→Prop} {s:Shared} {K:PySem.W.Frag} {x dx C f:Addr} {mA:Str→Option Value} {name:Str} {v:Value}
end
theorem jo.some_of {v:V} {o:Option Value} (r:jo (some v) o):∃u,o=some u∧RelV v u:=by
 cases o with
 | none=>exact (show False from r).elim
 | some u=>exact ⟨u,rfl,r⟩
section
variable {P:Program} {w:World} {H H':Hp} {h h':Heap} {a C dx:Addr} {fs fs':List (Str×V)}
theorem tN (hok:HOk P w H h) (e:H a=some (.ins C dx fs)):∃mA,ObjM h a dx C mA∧(∀f,jo (fs.lookup f) (mA f))∧PySem.Within mA (fs.map (·.1))∧fs.length≤1000∧H dx=some (.own a):=by
 obtain ⟨d,z,ne,ob,mA,n,r,q⟩:=(show bB P w H h a (.ins C dx fs) from hok a _ e)
 exact ⟨mA,⟨ob,n,ne⟩,r,q,z,d⟩
end
structure Cls (K:PySem.W.Frag) (C:Addr):Prop where
 pg:PySem.W.plainGet K C Str.empty=true
 hd:PySem.W.hasDictIn K C=true
 po:PySem.W.plainOver K C=true
 sa:PySem.W.findIn K (.ref C) "__setattr__"=some (some (.builtin "object.__setattr__"))
theorem Cls.get {K:PySem.W.Frag} {C:Addr} (c:Cls K C) (f:Str):PySem.W.plainGet K C f=true:=c.pg
section
variable {X:Cx} {pins:List (Addr×Obj)} {σ:St} {H:Hp} {s:Shared} {a C dx:Addr} {fs:List (Str×V)} {f:Str} {v:V} {A:Around} {E:Value→Shared→Prop}
end
section
variable {X:Cx} {o e value:Expr} {f:Str} {pos pos' tpos:Pos} {ta tv:TE}
end
section
variable {X:Cx} {pins:List (Addr×Obj)} {σ:St} {H:Hp} {s:Shared} {A:Around} {E:Value→Shared→Prop} {Q:Value→Shared→Prop} {c:Value} {b:Bool}
inductive TyOf (K:PySem.W.Frag) (H:Hp):V→Value→Prop where
 | non:TyOf K H .non (.type "NoneType")
 | bl (x:Bool):TyOf K H (.bl x) (.type "bool")
 | int (i:Int):TyOf K H (.int i) (.type "int")
 | str (x:Str):TyOf K H (.str x) (.type "str")
 | flt (x:UInt64):TyOf K H (.flt x) (.type "float")
 | lst {a:Addr} {xs:List V} (e:H a=some (.lst xs)):TyOf K H (.ref a) (.type "list")
 | frz {a:Addr} {o:Obj} {xs:List V} (e:H a=some (.frz o (.lst xs))):TyOf K H (.ref a) (.type "list")
 | tup {a:Addr} {xs:List V} (e:H a=some (.tup xs)):TyOf K H (.ref a) (.type "tuple")
 | dK {a:Addr} {kvs:List (Key×V)} (e:H a=some (.dK kvs)):TyOf K H (.ref a) (.type "dict")
 | dT {a:Addr} {kvs:List (List Key×V)} (e:H a=some (.dT kvs)):TyOf K H (.ref a) (.type "dict")
 | ins {a C dx:Addr} {fs:List (Str×V)} (e:H a=some (.ins C dx fs)) (cl:Cls K C) (ha:PySem.W.findIn K (.ref C) "__class__"=some (some (.builtin "object.__class__")))
   (hn:PySem.W.specialIn K (.builtin "object.__class__") "__get__"=some (some (.builtin "getset_descriptor.__get__"))) (htk:PySem.W.takesIn K (.builtin "object.__class__")=some true)
   (hm:PySem.W.mroIn K C (.type "object")=some true):TyOf K H (.ref a) (.ref C)
theorem pF {x:V} {u t:Value} (I:Inv X pins σ H s) (rx:RelV x u) (ty:TyOf X.K H x t) (e:PySem.W.kitOne X.K t c=some b) (h:∀tk,Q (.bool b) {s with toks:=tk}):
  wpAny (model X.prog X.w) A (call (.builtin "isinstance") [u,c]) Q E s:=by
 cases ty with
 | non=>cases (show u=Value.none from rx);exact PySem.W.kia_one PySem.W.kitx_none I.kIn True.intro e (fun z=>nomatch z) h
 | bl y=>cases (show u=Value.bool y from rx);exact PySem.W.kia_one PySem.W.kitx_bool I.kIn True.intro e (fun z=>nomatch z) h
 | int i=>obtain ⟨t,q⟩:=(show ∃t,u=Value.int i t from rx);cases q;exact PySem.W.kia_one PySem.W.kitx_int I.kIn True.intro e (fun z=>nomatch z) h
 | str y=>obtain ⟨t,q⟩:=(show ∃t,u=Value.str y t from rx);cases q;exact PySem.W.kia_one PySem.W.kitx_str I.kIn True.intro e (fun z=>nomatch z) h
 | flt y=>obtain ⟨t,q⟩:=(show ∃t,u=Value.float y t from rx);cases q;exact PySem.W.kia_one PySem.W.kitx_float I.kIn True.intro e (fun z=>nomatch z) h
 | @lst a xs ea=>
  cases (show u=Value.ref a from rx)
  obtain ⟨_,_,n,_,h1⟩:=(show bB X.prog X.w H s.heap a (.lst xs) from I.hok a _ ea)
  exact PySem.W.kia_one PySem.W.kitx_list I.kIn ⟨_,h1,rfl⟩ e (fun z=>nomatch z) h
 | @frz a ob xs ea=>
  cases (show u=Value.ref a from rx)
  obtain ⟨_,_,_,n,_,h1⟩:=(show bB X.prog X.w H s.heap a (.frz ob (.lst xs)) from I.hok a _ ea)
  exact PySem.W.kia_one PySem.W.kitx_list I.kIn ⟨_,h1,rfl⟩ e (fun z=>nomatch z) h
 | @tup a xs ea=>
  cases (show u=Value.ref a from rx)
  obtain ⟨_,_,_,p⟩:=(show bB X.prog X.w H s.heap a (.tup xs) from I.hok a _ ea)
  obtain ⟨o,h1,h2,_⟩:=p
  exact PySem.W.kia_one PySem.W.kitx_tuple I.kIn ⟨o,h1,h2⟩ e (fun z=>nomatch z) h
 | @dK a kvs ea=>
  cases (show u=Value.ref a from rx)
  obtain ⟨_,_,vs,_,p⟩:=(show bB X.prog X.w H s.heap a (.dK kvs) from I.hok a _ ea)
  obtain ⟨o,es,ep,h1,h2,_⟩:=p
  exact PySem.W.kia_one PySem.W.kitx_dict I.kIn ⟨o,h1,h2.1⟩ e (fun z=>nomatch z) h
 | @dT a kvs ea=>
  cases (show u=Value.ref a from rx)
  obtain ⟨_,_,xs,_,o,es,ep,h1,h2,_⟩:=(show bB X.prog X.w H s.heap a (.dT kvs) from I.hok a _ ea)
  exact PySem.W.kia_one PySem.W.kitx_dict I.kIn ⟨o,h1,h2.1⟩ e (fun z=>nomatch z) h
 | @ins a C dx fs ea cl ha hn htk hm=>
  cases (show u=Value.ref a from rx)
  obtain ⟨mA,O,_⟩:=tN I.hok ea
  obtain ⟨od,J,_⟩:=O.look
  exact PySem.W.kia_one (PySem.W.kitx_own (cl.get _) cl.hd ha hn htk hm) I.kIn J e (fun z=>nomatch z) h
end
end L2
namespace L2
open PySem PySem.Spec PyProof.Rows
structure Room (k:Nat) (A:Around):Prop where
 hd:A.handled=none
 dp:A.depth+3*k+5 < recursionLimit
 un:A.units+16*k+200 < cLine
theorem Room.mono {j k:Nat} {A:Around} (r:Room k A) (h:j≤k):Room j A:=⟨r.hd,by have:=r.dp;omega,by have:=r.un;omega⟩
theorem Room.deeper {k:Nat} {A:Around} (r:Room (k+1) A) (env:Env):Room k (A.deeper env):=
 ⟨r.hd,by have:=r.dp;show A.depth+1+3*k+5 < _;omega,by have:=r.un;show A.units+3+16*k+200 < _;omega⟩
theorem Room.depth {k:Nat} {A:Around} (r:Room k A):A.depth < recursionLimit:=by have:=r.dp;omega
theorem Room.units {k:Nat} {A:Around} (r:Room k A):A.units+64 < cLine:=by have:=r.un;omega
def yf:TA:=fun _ H Q=>Q [] H
def xa (ta:TE) (tr:TA):TA:=fun σ H Q=>ta σ H fun x H1=>tr σ H1 fun xs H2=>Q (x::xs) H2
section
variable {X:Cx} {e:Expr} {es:List Expr} {te:TE} {t:TA} {pos:Pos}
theorem vz:PA X [] yf:=fun _ _ _ _ H Q I h=>Calls.spliced_nil ⟨[],H,I,.nil,h⟩
theorem sZ (ha:PE X e te) (hr:PA X es t) (hs:starEach (e::es) X.env=(false,eval e X.env)::starEach es X.env:=by rfl):PA X (e::es) (xa te t):=by
 intro pos pins s σ H Q I h
 rw [hs]
 show wpAny _ _ (spliced ((false,eval e X.env)::backTo pos (starEach es X.env))) _ _ s
 refine Calls.spliced_cons (thn (ha pins s σ H _ I h) fun u s1 ⟨x,H1,I1,r1,q1⟩=>?_)
 exact thn (hr pos pins s1 σ H1 _ I1 q1) fun us s2 ⟨xs,H2,I2,r2,q2⟩=>⟨x::xs,H2,I2,.cons r1 r2,q2⟩
def yd (t:TA):TE:=fun σ H Q=>t σ H fun xs H1=>xs.length≤sizeLine∧∀p,H1 p=none→Q (.ref p) (upd H1 p (.tup xs))
def yh (t:TA):TE:=fun σ H Q=>t σ H fun xs H1=>xs.length≤sizeLine∧∀p,H1 p=none→Q (.ref p) (upd H1 p (.lst xs))
theorem vo {x1} (h:PA X es t):PE X (.Tuple es x1 pos) (yd t):=by
 intro pins s σ H Q I hq
 refine wpAny_Tuple_spliced (thn (h pos pins s σ H _ I hq) fun us s1 ⟨xs,H1,I1,r,z,q⟩=>⟨by rw [←r.length];exact z,?_⟩)
 have hf:H1 s1.heap.objs.size=none:=I1.hok.fresh (Nat.le_refl _)
 refine ⟨.ref s1.heap.objs.size,upd H1 s1.heap.objs.size (.tup xs),I1.laid (t':=s1.toks) (fun b u e=>Heap.get?_push_of_some _ e) (Nat.le_refl _) ?_,rfl,q _ hf⟩
 exact ⟨z,us,r,⟨_,Heap.get?_push_size _ rfl,rfl,⟨_,rfl⟩,rfl⟩⟩
theorem vv (h:PA X es t):PE X (.List es pos) (yh t):=by
 intro pins s σ H Q I hq
 refine wpAny_List_spliced (thn (h pos pins s σ H _ I hq) fun us s1 ⟨xs,H1,I1,r,z,q⟩=>⟨by rw [←r.length];exact z,?_⟩)
 have hf:H1 s1.heap.objs.size=none:=I1.hok.fresh (Nat.le_refl _)
 refine ⟨.ref s1.heap.objs.size,upd H1 s1.heap.objs.size (.lst xs),I1.laid (t':=s1.toks) (fun b u e=>Heap.get?_push_of_some _ e) (Nat.le_refl _) ?_,rfl,q _ hf⟩
 exact ⟨z,us,0,r,Heap.get?_push_size _ rfl⟩
end
abbrev Sp:=List V→Hp→VK→XK→Prop
abbrev CXT:=List Env→Hp→Shared→XK→Value→Shared→Prop
structure Env0 (P:Program) (w:World) (K:PySem.W.Frag) (mg:Str→Option Value) (base:Heap) (A:Around) (outer:List Env) (s:Shared) (H:Hp):Prop where
 frames:A.frames=some outer
 mod:Mod K mg base
 bs:∀b o,base.get? b=some o→s.heap.get? b=some o∧H b=none
 bsz:base.objs.size≤s.heap.objs.size
 i8:s.heap.FunFrames base outer
 frf:∀b∈frs outer,H b=none
 hok:HOk P w H s.heap
 bare:AllBare s.gens
def CE (outer:List Env) (P:Program) (w:World) (H:Hp) (s:Shared) (Q:VK) (u:Value) (s':Shared):Prop:=
 ∃v H',s'.os=s.os∧AllBare s'.gens∧Un (frs outer) [] H H' s.heap s'.heap∧HOk P w H' s'.heap∧RelV v u∧Q v H'
def CR (CX:CXT) (outer:List Env) (P:Program) (w:World) (H:Hp) (s:Shared) (Q:VK) (E:XK) (r:Result) (s':Shared):Prop:=
 match r with
 | .ok (.ret u)=>CE outer P w H s Q u s'
 | .ok _=>False
 | .error e=>CX outer H s E e s'
structure FnOk (P:Program) (w:World) (K:PySem.W.Frag) (mg:Str→Option Value) (base:Heap) (CX:CXT) (k:Nat) (f:Addr) (fd:FuncData) (ps:List Str) (sp:Sp):Prop where
 len:∀vs H Q E,sp vs H Q E→vs.length=ps.length
 run:∀(A:Around) (outer:List Env) (s:Shared) (H:Hp) (args:Args) (us:List Value) (vs:List V) (Q:VK) (E:XK),Room k A→Env0 P w K mg base A outer s H→BindsTo s fd args (ps.zip us)→Vals vs us→sp vs H Q E→
  codeAny (model P w) A (.call (.ref f) args) (CR CX outer P w H s Q E) s
theorem FnOk.imp {P:Program} {w:World} {K:PySem.W.Frag} {mg:Str→Option Value} {base:Heap} {CX:CXT} {k:Nat} {f:Addr} {fd:FuncData} {ps:List Str} {sp sp':Sp} (F:FnOk P w K mg base CX k f fd ps sp)
  (h:∀vs H Q E,sp' vs H Q E→sp vs H Q E):FnOk P w K mg base CX k f fd ps sp':=
 ⟨fun vs H Q E q=>F.len vs H Q E (h _ _ _ _ q),fun A outer s H args us vs Q E hr he hb hv hs=>F.run A outer s H args us vs Q E hr he hb hv (h _ _ _ _ hs)⟩
section
variable {X:Cx} {pins:List (Addr×Obj)} {σ:St} {H:Hp} {s s':Shared}
theorem Inv.yY (I:Inv X pins σ H s):Env0 X.prog X.w X.K X.mg X.base X.A X.stack s H:=
 ⟨I.ok.frames,I.ok.mod,I.bs,Nat.le_trans I.ok.bsz I.sz,I.stack,I.oD,I.hok,I.bare⟩
theorem Inv.after {Q:VK} {u:Value} (I:Inv X pins σ H s) (h:CE X.stack X.prog X.w H s Q u s'):EP X pins σ Q u s':=by
 obtain ⟨v,H',os,bare,un,hok,r,q⟩:=h
 obtain ⟨hh,g,d,t,os'⟩:=s'
 obtain rfl:os'=s.os:=os
 exact ⟨v,H',I.call (h':=hh) (g':=g) (d':=d) (t':=t) (ch:=[]) un hok bare (fun b z=>absurd z (by simp)),r,q⟩
end
def xb (sp:Sp) (dvs:List V) (E:XK) (t:TA):TE:=fun σ H Q=>t σ H fun vs H1=>sp (vs++dvs) H1 Q E
def Binds (K:PySem.W.Frag) (fd:FuncData) (ps:List Str) (ds:List Value):Prop:=
 ∀(s:Shared) (us:List Value),K.In s.heap→(us++ds).length=ps.length→BindsTo s fd ⟨us,[]⟩ (ps.zip (us++ds))
theorem Binds.all {K:PySem.W.Frag} {fd:FuncData} {ps:List Str} (h:∀us:List Value,us.length=ps.length→bindArgs fd ⟨us,[]⟩=pure (ps.zip us)):Binds K fd ps []:=fun s us _ hl=>by
 rw [List.append_nil] at hl ⊢
 exact .of_eq (h us hl)
def Passes (CX:CXT) (X:Cx) (E:XK):Prop:=∀(pins:List (Addr×Obj)) (σ:St) (H:Hp) (s:Shared) (e:Value) (s':Shared),Inv X pins σ H s→CX X.stack H s E e s'→X.xe e s'
section
variable {X:Cx} {CX:CXT} {k:Nat} {f C:Addr} {fd:FuncData} {ps:List Str} {sp:Sp} {dvs:List V} {ds:List Value} {E:XK} {x m:Str} {p pos apos:Pos} {e o:Expr} {es:List Expr} {ta:TE} {t:TA}
theorem uL {pins:List (Addr×Obj)} {σ:St} {H:Hp} {s:Shared} {Q:VK} {us:List Value} {vs:List V} (F:FnOk X.prog X.w X.K X.mg X.base CX k f fd ps sp) (hr:Room k X.A) (hb:Binds X.K fd ps ds) (hd:Vals dvs ds) (hx:Passes CX X E)
  (I:Inv X pins σ H s) (r:Vals vs us) (h:sp (vs++dvs) H Q E):wpAny (model X.prog X.w) X.A (call (.ref f) us) (EP X pins σ Q) X.xe s:=by
 have r2:Vals (vs++dvs) (us++ds):=r.append hd
 have hl:(us++ds).length=ps.length:=by rw [←r2.length];exact F.len _ _ _ _ h
 refine wpAny_call (codeAny_mono (F.run X.A X.stack s H ⟨us,[]⟩ (us++ds) (vs++dvs) Q E hr I.yY (hb s us I.kIn hl) r2 h) fun r s' hq=>?_)
 cases r with
 | error e=>exact hx pins σ H s e s' I hq
 | ok fl=>
  cases fl with
  | ret u=>exact I.after hq
  | next=>exact False.elim hq
  | brk=>exact False.elim hq
  | cont=>exact False.elim hq
theorem sX (F:FnOk X.prog X.w X.K X.mg X.base CX k f fd ps sp) (hr:Room k X.A) (hg:Gl X x) (hm:X.mg x=some (.ref f)) (hk:PySem.W.keepIn X.K (.ref f)=true) (hb:Binds X.K fd ps ds) (hd:Vals dvs ds) (hx:Passes CX X E)
  (ha:PA X (e::es) t) (hdb:(x==("__debug__":Str))=false:=by decide) (he:starEach (e::es) X.env=(false,eval e X.env)::starEach es X.env:=by rfl) (hpl:(backTo pos (starEach es X.env)).any (·.1)=false:=by rfl):
  PE X (.Call (.Name x p) (e::es) [] pos) (xb sp dvs E t):=by
 intro pins s σ H Q I h
 refine wpAny_Call_Name_kw (tH I hg hm ?_ hdb)
 refine PySem.W.callWith_K (h₀:=X.base) I.ok.mod.kin hk (thn (ha pos pins s σ H _ I h) fun us s1 ⟨vs,H1,I1,r,q⟩=>⟨I1.kIn,?_⟩) he hpl
 exact uL F hr hb hd hx I1 r q
end
section
variable {X:Cx} {CX:CXT} {k:Nat} {f C:Addr} {fd:FuncData} {ps ks:List Str} {sp:Sp} {E:XK} {x m:Str} {p pos apos kpos:Pos} {e o:Expr} {es:List Expr} {kws:List Keyword} {te ta:TE} {t tk:TA} {nm:Option Str}
variable {g:List Value→List Value→List Value} {gV:List V→List V→List V}
end
structure FnScope (N P:List Str) (sc:Scope):Prop where
 kind:sc.kind=.function
 co:sc.isCoroutine=false
 gen:sc.isGenerator=false
 nd:N.Nodup
 pre:N.take P.length=P
 par:∀x∈P,sc.names.lookup x=some .local∨sc.names.lookup x=some .cell
 nofree:∀y∈sc.names,y.2≠.free
theorem ko {kindOf:Str→Option NameKind} {x:Str}:∀{binds:List (Str×Value)} {m:Str→Option Value},(∀v,(x,v)∉binds)→bindL kindOf binds m x=m x
 | [],_,_=>rfl
 | (n,v)::r,m,h=>by
  unfold bindL
  rw [ko fun w hw=>h w (List.mem_cons_of_mem _ hw)]
  split
  ·have:x≠n:=by rintro rfl;exact h v List.mem_cons_self
   simp [this]
  ·rfl
theorem kr {kindOf:Str→Option NameKind} {x:Str}:∀{binds:List (Str×Value)} {m:Str→Option Value},(∀v,(x,v)∉binds)→bindC kindOf binds m x=m x
 | [],_,_=>rfl
 | (n,v)::r,m,h=>by
  unfold bindC
  rw [kr fun w hw=>h w (List.mem_cons_of_mem _ hw)]
  split
  ·rfl
  ·have:x≠n:=by rintro rfl;exact h v List.mem_cons_self
   simp [this]
theorem kq {kindOf:Str→Option NameKind} {x:Str} {v:Value}:∀{P:List Str} {vs:List Value} {i:Nat} {m:Str→Option Value},P.Nodup→P[i]?=some x→vs[i]?=some v→kindOf x=some .local→
  bindL kindOf (P.zip vs) m x=some v
 | [],_,_,_,_,h,_,_=>by simp at h
 | _::_,[],_,_,_,_,h,_=>by simp at h
 | p::P,w::vs,0,m,nd,h1,h2,hk=>by
  simp at h1 h2;subst h1;subst h2
  show bindL kindOf ((p,w)::P.zip vs) m p=_
  unfold bindL
  rw [ko fun v hv=>(List.nodup_cons.mp nd).1 (List.of_mem_zip hv).1,if_pos hk]
  simp
 | p::P,w::vs,i+1,m,nd,h1,h2,hk=>by
  show bindL kindOf ((p,w)::P.zip vs) m x=_
  unfold bindL
  exact kq (i:=i) (List.nodup_cons.mp nd).2 (by simpa using h1) (by simpa using h2) hk
theorem kz {kindOf:Str→Option NameKind} {x:Str} {v:Value}:∀{P:List Str} {vs:List Value} {i:Nat} {m:Str→Option Value},P.Nodup→P[i]?=some x→vs[i]?=some v→kindOf x≠some .local→
  bindC kindOf (P.zip vs) m x=some v
 | [],_,_,_,_,h,_,_=>by simp at h
 | _::_,[],_,_,_,_,h,_=>by simp at h
 | p::P,w::vs,0,m,nd,h1,h2,hk=>by
  simp at h1 h2;subst h1;subst h2
  show bindC kindOf ((p,w)::P.zip vs) m p=_
  unfold bindC
  rw [kr fun v hv=>(List.nodup_cons.mp nd).1 (List.of_mem_zip hv).1,if_neg hk]
  simp
 | p::P,w::vs,i+1,m,nd,h1,h2,hk=>by
  show bindC kindOf ((p,w)::P.zip vs) m x=_
  unfold bindC
  exact kz (i:=i) (List.nodup_cons.mp nd).2 (by simpa using h1) (by simpa using h2) hk
def start (N:List Str) (vs:List V):St:=vs.map some++List.replicate (N.length-vs.length) none
abbrev og (CX:CXT) (P:Program) (w:World) (K:PySem.W.Frag) (mg:Str→Option Value) (base:Heap) (N:List Str) (qual:Str) (scope:Scope) (f:Addr) (cd:Value) (A:Around) (outer:List Env) (s:Shared) (H:Hp) (E:XK):Cx where
 prog:=P
 w:=w
 K:=K
 mg:=mg
 base:=base
 A:=A.deeper (envOfC qual scope s.heap.objs.size f cd)
 N:=N
 s₀:=s
 H₀:=H
 env:=envOfC qual scope s.heap.objs.size f cd
 outer:=outer
 stack:=envOfC qual scope s.heap.objs.size f cd::outer
 ex:=[]
 calm:=true
 fn:=fun _=>true
 pn:=[]
 xe:=fun e s'=>wpAny (model P w) (A.deeper (envOfC qual scope s.heap.objs.size f cd)) (leaving (envOfC qual scope s.heap.objs.size f cd) e) (fun _ s''=>CX outer H s E e s'') (fun e' s''=>CX outer H s E e' s'') s'
theorem nq {sc:Scope} {n:Nat} {x:Str} (h:sc.names.lookup x=some .cell):∃c,(cellsFrom n sc.names []).lookup x=some c:=by
 have q:=PySem.W.cellsFrom_some sc.names n [] (.inl h)
 exact Option.isSome_iff_exists.mp q
theorem pG {CX:CXT} {P:Program} {w:World} {K:PySem.W.Frag} {mg:Str→Option Value} {base:Heap} {N ps:List Str} {qual:Str} {scope:Scope} {f:Addr} {cd:Value} {A:Around} {outer:List Env} {s s1:Shared} {H:Hp} {E:XK} {us:List Value} {vs:List V}
  (S:FnScope N ps scope) (hd:A.handled=none) (e0:Env0 P w K mg base A outer s H) (hl:vs.length=ps.length) (r:Vals vs us)
  (x:InCallC s s.heap.objs.size (bindL (envOfC qual scope s.heap.objs.size f cd).kindOf (ps.zip us) fun _=>none) (cellsFrom (s.heap.objs.size+1) scope.names []) (bindC (envOfC qual scope s.heap.objs.size f cd).kindOf (ps.zip us) fun _=>none) s1):
  Inv (og CX P w K mg base N qual scope f cd A outer s H E) [] (start N vs) H s1:=by
 have hpl:ps.length≤N.length:=by have:=congrArg List.length S.pre;rw [List.length_take] at this;omega
 obtain ⟨h1,tk,rfl,hk⟩:=x.done
 have noA:∀b:Addr,b∉(og CX P w K mg base N qual scope f cd A outer s H E).ex:=fun b z=>absurd (show b∈([]:List Addr) from z) (by simp)
 refine ⟨⟨e0.mod,S.kind,rfl,rfl,Nat.le_refl _,fun y z c h1 h2=>?_,fun y hy=>?_,fun y c _ h=>?_,fun _=>hd,Around.frames_deeper e0.frames,.inr ⟨rfl,rfl⟩,fun b z=>absurd z (noA b),e0.bs,e0.bsz,fun b _ _=>noA b,fun b z=>absurd z (noA b),e0.i8,e0.frf⟩,
  rfl,e0.bare,Un.kept hk,⟨_,x.toInCall.ns,fun i y v h1 h2 h3=>?_⟩,fun y c h=>⟨_,x.cell y c h⟩,e0.hok.fresh (Nat.le_refl _),fun y c h=>?_,fun p hp=>absurd (show p∈([]:List (Addr×Obj)) from hp) (by simp),e0.hok.kept hk,?_⟩
 ·exact name_of_addr x.apart (PySem.mem_of_lookup h1) (PySem.mem_of_lookup h2)
 ·have hy:scope.names.lookup y=some .cell∨scope.names.lookup y=some .free:=hy
  rcases hy with hy | hy
  ·exact nq hy
  ·exact absurd rfl (S.nofree _ (PySem.mem_of_lookup hy))
 ·exact Nat.le_of_lt (x.above y c (PySem.mem_of_lookup h))
 ·have hi:i < vs.length:=by
   unfold start at h2
   by_cases hi:i < vs.length
   ·exact hi
   ·rw [List.getElem?_append_right (by simpa using hi)] at h2
    rw [List.getElem?_replicate] at h2
    split at h2 <;> cases h2
  have ha:vs[i]?=some v:=by
   unfold start at h2
   rw [List.getElem?_append_left (by simpa using hi),List.getElem?_map] at h2
   cases e:vs[i]? with
   | none=>rw [e] at h2;cases h2
   | some a=>rw [e] at h2;cases h2;rfl
  obtain ⟨u,hu,rv⟩:=r.get ha
  have hp:ps[i]?=some y:=by
   rw [←S.pre,List.getElem?_take_of_lt (by omega)];exact h1
  have ndP:ps.Nodup:=by rw [←S.pre];exact S.nd.sublist (List.take_sublist _ _)
  refine ⟨u,rv,?_⟩
  rcases S.par y (List.mem_of_getElem? hp) with k | k
  ·exact .inl ⟨k,kq ndP hp hu k⟩
  ·obtain ⟨c,e⟩:=nq (n:=s.heap.objs.size+1) k
   refine .inr ⟨.inl k,c,e,?_⟩
   have q:=x.cell y c e
   rw [kz ndP hp hu (by show scope.names.lookup y≠_;rw [k];decide)] at q
   exact q
 ·exact e0.hok.fresh (Nat.le_of_lt (x.above y c (PySem.mem_of_lookup h)))
 ·unfold start
  show _=N.length
  rw [List.length_append,List.length_map,List.length_replicate]
  omega
theorem xT {CX:CXT} {P:Program} {w:World} {K:PySem.W.Frag} {mg:Str→Option Value} {base:Heap} {k:Nat} {f:Addr} {name qual:Str} {params:Arguments} {body:List Stmt} {scope:Scope} {dV kV doc pm cdv ct oc:Value} {an od:Option Addr}
  {osl:Array (Option Value)} {N ps:List Str} {sp:Sp} (lk:K.lookup f=some ⟨oc,od,.func (PySem.W.fnOf name qual params body scope dV kV doc pm an cdv ct),osl⟩) (hcd:PySem.W.codeIn K cdv qual=true) (S:FnScope N ps scope)
  (len:∀vs H Q E,sp vs H Q E→vs.length=ps.length)
  (hbody:∀(A:Around) (outer:List Env) (s:Shared) (H:Hp) (vs:List V) (Q:VK) (E:XK),Room k (A.deeper (envOfC qual scope s.heap.objs.size f cdv))→sp vs H Q E→
   ∃t,PSs (og CX P w K mg base N qual scope f cdv A outer s H E) body t∧t {nx:=fun _ H'=>Q .non H',rt:=Q} (start N vs) H):
  FnOk P w K mg base CX (k+1) f (PySem.W.fnOf name qual params body scope dV kV doc pm an cdv ct) ps sp:=by
 refine ⟨len,fun A outer s H args us vs Q E hr e0 hb r hsp=>?_⟩
 have hl:=len _ _ _ _ hsp
 have KX:K.In s.heap:=e0.mod.kin.keeps fun b o e=>(e0.bs b o e).1
 have lim:s.heap.NoLimit:=e0.mod.nolimit.keeps fun b o e=>(e0.bs b o e).1
 have hkind:∀y∈ps.zip us,scope.names.lookup y.1=some .local∨(scope.names.lookup y.1=some .cell∧((cellsFrom (s.heap.objs.size+1) scope.names []).lookup y.1).isSome=true):=fun ⟨n,v⟩ hy=>by
  rcases S.par n (List.of_mem_zip hy).1 with q | q
  ·exact .inl q
  ·exact .inr ⟨q,PySem.W.cellsFrom_some _ _ _ (.inl q)⟩
 refine codeAny_call_function hr.depth (KX _ _ lk) rfl S.co S.gen rfl (PySem.W.codeRec_of KX hcd) (hb _ _ _ _ ?_)
 refine wpAny_newFunctionEnv_cells S.kind hkind fun env he s1 x=>?_
 subst he
 refine ⟨lim.keeps x.toInCall.keep,codeAny_func ?_⟩
 obtain ⟨t,ht,hq⟩:=hbody A outer s H vs Q E (hr.deeper _) hsp
 have I:Inv (og CX P w K mg base N qual scope f cdv A outer s H E) [] (start N vs) H s1:=pG S hr.hd e0 hl r x
 refine wpAny_mono (ht [] s1 (start N vs) H _ I hq) (fun fl s' hs=>?_) fun e s' hs=>hs
 have fin:∀{σ':St} {H':Hp} {v:V} {u:Value},Inv (og CX P w K mg base N qual scope f cdv A outer s H E) [] σ' H' s'→RelV v u→Q v H'→CE outer P w H s Q u s':=
  fun {σ' H' v u} J rv q=>⟨v,H',J.os,J.bare,J.base,J.hok,rv,q⟩
 cases fl with
 | ret u=>
  obtain ⟨v,σ',H',J,rv,q⟩:=hs
  exact fin J rv q
 | next=>
  obtain ⟨σ',H',J,q⟩:=hs
  exact fin (v:=V.non) (u:=Value.none) J rfl q
 | brk=>
  obtain ⟨_,_,_,q⟩:=hs
  exact False.elim q
 | cont=>
  obtain ⟨_,_,_,q⟩:=hs
  exact False.elim q
end L2
namespace L2
open PySem PySem.Spec PyProof.Rows
section
variable {X:Cx} {x:Str} {p pos:Pos} {e:Expr} {es:List Expr} {t:TA} {id T:String} {r:List V→Hp→VK→Prop}
def tCB (r:List V→Hp→VK→Prop) (t:TA):TE:=fun σ H Q=>t σ H fun vs H1=>r vs H1 Q
theorem qE (hc:cW X (.builtin id) r) (hg:Gl X x) (hm:X.mg x=none) (hv:bootBuiltins x=some (.builtin id)) (ha:PA X (e::es) t) (hn:x≠"__name__":=by decide) (hdb:(x==("__debug__":Str))=false:=by decide)
  (he:starEach (e::es) X.env=(false,eval e X.env)::starEach es X.env:=by rfl) (hpl:(backTo pos (starEach es X.env)).any (·.1)=false:=by rfl):PE X (.Call (.Name x p) (e::es) [] pos) (tCB r t):=by
 intro pins s σ H Q I h
 refine wpAny_Call_Name_kw (c8 I hg hm hv ?_ hn hdb)
 exact PyProof.Rows.callWith_builtin1 (thn (ha pos pins s σ H _ I h) fun us s1 ⟨vs,H1,I1,r1,q1⟩=>hc pins s1 σ H1 vs us Q I1 r1 q1) he hpl
theorem j4 (hc:cW X (.type T) r) (hg:Gl X x) (hm:X.mg x=none) (hv:bootBuiltins x=some (.type T)) (ha:PA X (e::es) t) (hn:x≠"__name__":=by decide) (hdb:(x==("__debug__":Str))=false:=by decide)
  (he:starEach (e::es) X.env=(false,eval e X.env)::starEach es X.env:=by rfl) (hpl:(backTo pos (starEach es X.env)).any (·.1)=false:=by rfl):PE X (.Call (.Name x p) (e::es) [] pos) (tCB r t):=by
 intro pins s σ H Q I h
 refine wpAny_Call_Name_kw (c8 I hg hm hv ?_ hn hdb)
 exact PyProof.Rows.callWith_type1 (thn (ha pos pins s σ H _ I h) fun us s1 ⟨vs,H1,I1,r1,q1⟩=>hc pins s1 σ H1 vs us Q I1 r1 q1) he hpl
end
end L2
namespace HT
open PySem PyProof.Rows
section
open PySem.SeqAt
open PySem.AutoSeq1 (wpAny_loadPart')
open PySem.MeetsSeq PySem.MeetsSeq2 PySem.MeetsSeq3
end
section
variable {prog:Program} {w:World} {A:Around} {E:Value→Shared→Prop} {s:Shared}
theorem tY {t b:Addr} {vs ws:List Value} {Q:Value→Shared→Prop} (ht:IsTup s.heap t vs.toArray) (hb:IsTup s.heap b ws.toArray) (hv:vs≠[])
  (h1:ws=[]→Q (.ref t) s) (h2:ws≠[]→Q (.ref s.heap.objs.size) {s with heap:=s.heap.push {cls:=.type "tuple",data:=.seq (vs++ws).toArray}})
  (hsz:vs.length+ws.length≤sizeLine):wpAny (model prog w) A (binaryOp .Add (.ref t) (.ref b)) Q E s:=by
 obtain ⟨⟨cls,dd,data,sl⟩,ho,hc,n,hd⟩:=id ht
 obtain ⟨⟨cls2,dd2,data2,sl2⟩,ho2,hc2,n2,hd2⟩:=id hb
 simp only at hc hd hc2 hd2
 subst hc hd hc2 hd2
 have e:vs.toArray++ws.toArray=(vs++ws).toArray:=by simp
 by_cases hw:ws=[]
 ·exact concat_meets ⟨_,ho,rfl⟩ ⟨_,ho2,rfl⟩ noFill_tuple_add seq_tuple_add PySem.F.slot_tuple_add PySem.F.entry_tuple_add (PySem.F.args_tuple_add_2 _ _)
   (tuple_addW1 t b vs.toArray ws.toArray n n2 dd dd2 sl sl2 (by simpa using hv) (by simp [hw])) ⟨ho,ho2,h1 hw⟩
 ·refine concat_meets ⟨_,ho,rfl⟩ ⟨_,ho2,rfl⟩ noFill_tuple_add seq_tuple_add PySem.F.slot_tuple_add PySem.F.entry_tuple_add (PySem.F.args_tuple_add_2 _ _)
   (tuple_addW2 t b vs.toArray ws.toArray n n2 dd dd2 sl sl2 (by simpa using hv) (by simpa using hw) (by rw [List.size_toArray,List.size_toArray];exact hsz)) ⟨ho,ho2,?_⟩
  rw [e]
  exact h2 hw
def sIx (n d:Nat):Option Int→Nat
 | none=>d
 | some v=>if v < 0 then (v+(n:Int)).toNat else min v.toNat n
theorem qk (n d:Nat):sIx n d none=d:=rfl
theorem sj (n d k:Nat):sIx n d (some (k:Int))=min k n:=by
 show (if (k:Int) < 0 then ((k:Int)+(n:Int)).toNat else min (k:Int).toNat n)=min k n
 rw [if_neg (by omega),Int.toNat_natCast]
theorem uK (n d:Nat) (hd:d≤n) (o:Option Int):sIx n d o≤n:=by
 cases o with
 | none=>exact hd
 | some v=>
  show (if v < 0 then (v+(n:Int)).toNat else min v.toNat n)≤n
  by_cases hv:v < 0
  ·rw [if_pos hv];omega
  ·rw [if_neg hv];exact Nat.min_le_right _ _
theorem oT (v:Int) (n d:Nat):(if v < 0 then max (v+(n:Int)) 0 else min v (n:Int))=((sIx n d (some v):Nat):Int):=by
 show (if v < 0 then max (v+(n:Int)) 0 else min v (n:Int))=(((if v < 0 then (v+(n:Int)).toNat else min v.toNat n):Nat):Int)
 by_cases hv:v < 0
 ·simp only [if_pos hv];omega
 ·simp only [if_neg hv];omega
theorem ox (lo hi:Option Int) (n:Nat):Builtin.Slice.sliceAdjust lo hi 1 (n:Int)=(((sIx n 0 lo:Nat):Int),((sIx n n hi:Nat):Int)):=by
 have h1:¬((1:Int) < 0):=by omega
 unfold Builtin.Slice.sliceAdjust
 simp only [h1,if_false]
 refine Prod.ext ?_ ?_
 ·cases lo with
  | none=>rfl
  | some v=>exact oT v n 0
 ·cases hi with
  | none=>rfl
  | some v=>exact oT v n n
theorem nF (i j:Nat):Builtin.Slice.slicePlaces (i:Int) (j:Int) 1=j-i:=by
 unfold Builtin.Slice.slicePlaces
 have h1:(1:Int) > 0:=by omega
 simp only [h1,if_true,Int.ediv_one]
 split <;> omega
theorem iB {v:Value} {o:Option Int} {Q:Option Int→Shared→Prop} (p:IsPart v o) (h:Q o s):wpAny (model prog w) A (Builtin.Slice.slicePartIndex v) Q E s:=by
 cases p with
 | none=>exact slicePart_none h
 | int i t=>exact slicePart_int h
theorem dB {sl:Addr} {vl vu:Value} {lo hi:Option Int} {n:Nat} {Q:Int×Int×Nat→Shared→Prop} (hs:s.heap.IsSliceOf sl vl vu .none) (pl:IsPart vl lo) (pu:IsPart vu hi)
  (h:Q (((sIx n 0 lo:Nat):Int),1,sIx n n hi-sIx n 0 lo) s):wpAny (model prog w) A (Builtin.Slice.sliceApplied (.ref sl) (pure (n:Int))) Q E s:=by
 obtain ⟨os,hos,hcs,hds⟩:=id hs
 unfold Builtin.Slice.sliceApplied Builtin.Slice.sliceFields
 refine wpAny_bind (wpAny_bind (wpAny_field hos hds (x:=vl) rfl (wpAny_bind (wpAny_field hos hds (x:=vu) rfl (wpAny_bind (wpAny_field hos hds (x:=.none) rfl (wpAny_pure ?_)))))))
 refine wpAny_bind (slicePart_none ?_)
 show wpAny _ _ (if ((1:Int)==0)=true then _ else _) _ _ s
 rw [if_neg (by decide)]
 refine wpAny_bind (iB pl (wpAny_bind (iB pu (wpAny_bind (wpAny_pure ?_)))))
 show wpAny _ _ (match Builtin.Slice.sliceAdjust lo hi 1 (n:Int) with | (lo,hi)=>pure (lo,(1:Int),Builtin.Slice.slicePlaces lo hi 1)) _ _ s
 rw [ox lo hi n]
 show wpAny _ _ (pure (((sIx n 0 lo:Nat):Int),(1:Int),Builtin.Slice.slicePlaces ((sIx n 0 lo:Nat):Int) ((sIx n n hi:Nat):Int) 1)) _ _ s
 rw [nF]
 exact wpAny_pure h
theorem qy (xs:Array Value) (i k:Nat):((List.range k).filterMap fun (m:Nat)=>xs[((i:Int)+(m:Int)*1).toNat]?).toArray=((xs.toList.drop i).take k).toArray:=by
 have e:(fun (m:Nat)=>xs[((i:Int)+(m:Int)*1).toNat]?)=fun m=>xs[i+m]?:=by
  funext m
  have:((i:Int)+(m:Int)*1).toNat=i+m:=by omega
  rw [this]
 rw [e]
 have:=pick_run xs i k
 rw [List.filterMap_map] at this
 have e2:((fun x=>xs[x]?)∘fun x=>i+x)=fun m=>xs[i+m]?:=rfl
 rw [e2] at this
 rw [this]
theorem gg {t sl:Addr} {items:Array Value} {vl vu:Value} {lo hi:Option Int} {Q:Value→Shared→Prop} (ht:IsTup s.heap t items) (hs:s.heap.IsSliceOf sl vl vu .none) (pl:IsPart vl lo) (pu:IsPart vu hi)
  (hw:¬(sIx items.size 0 lo=0∧sIx items.size items.size hi=items.size))
  (h:Q (.ref s.heap.objs.size) {s with heap:=s.heap.push {cls:=.type "tuple",data:=.seq ((items.toList.drop (sIx items.size 0 lo)).take (sIx items.size items.size hi-sIx items.size 0 lo)).toArray}})
  (hsz:items.size≤sizeLine):wpAny (model prog w) A (getItem (.ref t) (.ref sl)) Q E s:=by
 have htake:sizeOk (.seq ((items.toList.drop (sIx items.size 0 lo)).take (sIx items.size items.size hi-sIx items.size 0 lo)).toArray):=by
  show ((items.toList.drop (sIx items.size 0 lo)).take (sIx items.size items.size hi-sIx items.size 0 lo)).toArray.size≤sizeLine
  rw [List.size_toArray,List.length_take,List.length_drop,Array.length_toList]
  omega
 have hj:sIx items.size items.size hi≤items.size:=uK _ _ (Nat.le_refl _) hi
 obtain ⟨os,hos,hcs,hds⟩:=id hs
 have hTs:s.TypeIs (.ref sl) "slice":=⟨os,hos,hcs⟩
 unfold getItem
 try with_reducible refine wpAny_holding ?_
 first | refine wpAny_bind (wpAny_pure ?_) | skip
 refine wpAny_bind (wpAny_sequenceKey ht.typeIs (by decide) ?_)
 refine wpAny_bind (wpAny_callSpecial?_slot (name:=Str.ofString "__getitem__") ht.typeIs PyProof.Rows.slot_tuple_getitem
  (wpAny_call_entry PyProof.Rows.slot_tuple_getitem ht.typeIs entry_tuple_getitem ?_ (args_tuple_getitem _ _)))
 show wpAny _ _ (Builtin.Tuple.tupleItemsOf (.ref t) >>=_) _ _ s
 refine wpAny_bind (tupleItemsOf_ ht ?_)
 refine wpAny_bind (wpAny_typeOf hTs ?_)
 rw [if_pos (by decide)]
 refine wpAny_bind (dB hs pl pu ?_)
 have hno:¬((((sIx items.size 0 lo:Nat):Int)==0&&(1:Int)==1&&(sIx items.size items.size hi-sIx items.size 0 lo)==items.size)=true):=by
  intro q
  rw [Bool.and_eq_true,Bool.and_eq_true] at q
  have q1:((sIx items.size 0 lo:Nat):Int)=0:=eq_of_beq q.1.1
  have q2:sIx items.size items.size hi-sIx items.size 0 lo=items.size:=eq_of_beq q.2
  exact hw ⟨by omega,by omega⟩
 show wpAny _ _ (if (((sIx items.size 0 lo:Nat):Int)==0&&(1:Int)==1&&(sIx items.size items.size hi-sIx items.size 0 lo)==items.size)=true then _ else _) _ _ s
 rw [if_neg hno,qy]
 first
  | exact wpAny_bind (m:=Builtin.Tuple.tupleExact _) (wpAny_newObj_type (wpAny_pure ⟨_,rfl,wpAny_pure h⟩) htake)
  | exact wpAny_bind (m:=Builtin.Tuple.tupleExact _) (wpAny_newObj_type (wpAny_bind (wpAny_pure (wpAny_pure ⟨_,rfl,wpAny_pure h⟩))) htake)
  | exact wpAny_bind (wpAny_bind (m:=Builtin.Tuple.tupleExact _) (wpAny_newObj_type (wpAny_pure (wpAny_pure ⟨_,rfl,wpAny_pure h⟩)) htake))
  | exact wpAny_bind (wpAny_bind (m:=Builtin.Tuple.tupleExact _) (wpAny_newObj_type (wpAny_pure ⟨_,rfl,wpAny_pure h⟩) htake))
end
end HT
namespace L2
open PySem PySem.Spec PyProof.Rows
abbrev TO:=St→Hp→(Option Int→Hp→Prop)→Prop
def PO (X:Cx) (e:Option Expr) (t:TO):Prop:=
 ∀(pins:List (Addr×Obj)) (s:Shared) (σ:St) (H:Hp) (Q:Option Int→Hp→Prop),Inv X pins σ H s→t σ H Q→
  wpAny (model X.prog X.w) X.A (evalPart e X.env) (fun u s'=>∃o H',Inv X pins σ H' s'∧IsPart u o∧Q o H') X.xe s
def rW:TO:=fun _ H Q=>Q none H
def wY (t:TE):TO:=fun σ H Q=>t σ H fun x H1=>∃i,x=.int i∧Q (some i) H1
theorem intsAre_of {ns:List Int}:∀{us:List Value},Vals (ns.map V.int) us→IntsAre us ns:=by
 induction ns with
 | nil=>intro us r;rw [List.map_nil] at r;cases r;exact .nil
 | cons n ns ih=>
  intro us r
  rw [List.map_cons] at r
  cases r with
  | cons r1 r2=>
   obtain ⟨t,e⟩:=r1
   subst e
   exact .cons n t (ih r2)
section
variable {X:Cx} {e:Expr} {te:TE} {lo hi:Option Expr} {tl th:TO} {pos p2:Pos}
theorem sO:PO X none rW:=by
 intro pins s σ H Q I h
 rw [evalPart_none]
 exact wpAny_pure ⟨none,H,I,.none,h⟩
theorem sN (h:PE X e te):PO X (some e) (wY te):=by
 intro pins s σ H Q I hw
 rw [evalPart_some]
 refine thn (h pins s σ H _ I hw) fun u s1 ⟨x,H1,I1,r1,q1⟩=>?_
 obtain ⟨i,rfl,q⟩:=q1
 obtain ⟨t,rfl⟩:=r1
 exact ⟨some i,H1,I1,.int i t,q⟩
def SlR (X:Cx) (r:V→Option Int→Option Int→Hp→VK→Prop):Prop:=
 ∀(pins:List (Addr×Obj)) (s:Shared) (σ:St) (H:Hp) (x:V) (v vl vu:Value) (lo hi:Option Int) (sl:Addr) (Q:VK),Inv X pins σ H s→RelV x v→s.heap.IsSliceOf sl vl vu .none→IsPart vl lo→IsPart vu hi→r x lo hi H Q→
  ∃T id,typeLookup (.type T) "__getitem__"=pure (some (.builtin id))∧s.TypeIs v T∧wpAny (model X.prog X.w) X.A (getItem v (.ref sl)) (EP X pins σ Q) X.xe s
def tSl (r:V→Option Int→Option Int→Hp→VK→Prop) (te:TE) (tl th:TO):TE:=fun σ H Q=>te σ H fun x H1=>tl σ H1 fun l H2=>th σ H2 fun u H3=>r x l u H3 Q
theorem qB {r:V→Option Int→Option Int→Hp→VK→Prop} (hr:SlR X r) (he:PE X e te) (hl:PO X lo tl) (hu:PO X hi th):PE X (.Subscript e (.Slice lo hi none p2) pos) (tSl r te tl th):=by
 intro pins s σ H Q I h
 refine Subscript_ (thn (he pins s σ H _ I h) fun v s1 ⟨x,H1,I1,r1,q1⟩=>?_)
 refine wpAny_Slice (thn (hl pins s1 σ H1 _ I1 q1) fun vl s2 ⟨l,H2,I2,pl,q2⟩=>thn (hu pins s2 σ H2 _ I2 q2) fun vu s3 ⟨u,H3,I3,pu,q3⟩=>?_)
 rw [evalPart_none]
 refine wpAny_pure ?_
 have I4:Inv X pins σ H3 {s3 with heap:=s3.heap.push {cls:=.type "slice",data:=.fields #[vl,vu,.none]}}:=I3.kept (t':=s3.toks) fun b ob q=>Heap.get?_push_of_some _ q
 obtain ⟨T,id,hT,ht,hg⟩:=hr pins {s3 with heap:=s3.heap.push {cls:=.type "slice",data:=.fields #[vl,vu,.none]}} σ H3 x v vl vu l u s3.heap.objs.size Q I4 r1 (Heap.IsSliceOf.new ..) pl pu q3
 show wpAny (model X.prog X.w) X.A (subscriptTail e (.Slice lo hi none p2) v (.ref s3.heap.objs.size)) (EP X pins σ Q) X.xe {s3 with heap:=s3.heap.push {cls:=.type "slice",data:=.fields #[vl,vu,.none]}}
 exact tail_any (ops:=[.ref s3.heap.objs.size,v]) ht hT hg (by with_unfolding_all rfl)
def jd (xs:List V) (lo hi:Option Int):List V:=(xs.drop (HT.sIx xs.length 0 lo)).take (HT.sIx xs.length xs.length hi-HT.sIx xs.length 0 lo)
theorem g0 (xs:List V) (lo hi:Option Int):(jd xs lo hi).length≤xs.length:=by
 unfold jd
 rw [List.length_take,List.length_drop]
 omega
def yz (K:PySem.W.Frag):V→Option Int→Option Int→Hp→VK→Prop:=fun x lo hi H Q=>∃a xs,x=.ref a∧SqT K H a xs∧
 ¬(HT.sIx xs.length 0 lo=0∧HT.sIx xs.length xs.length hi=xs.length)∧∀p,H p=none→Q (.ref p) (upd H p (.tup (jd xs lo hi)))
theorem uG:SlR X (yz X.K):=by
 intro pins s σ H x v vl vu lo hi sl Q I rx hs pl pu h
 obtain ⟨a,xs,rfl,hx,hw,q⟩:=h
 cases rx
 obtain ⟨its,r,ht,hz⟩:=I.tuple hx
 have hlen:its.toArray.size=xs.length:=by rw [List.size_toArray];exact r.length.symm
 refine ⟨"tuple",_,PyProof.Rows.slot_tuple_getitem.lookup,ht.typeIs,?_⟩
 refine HT.gg ht hs pl pu (by rw [hlen];exact hw) ?_ (by rw [hlen];exact hz)
 rw [hlen]
 refine ⟨.ref s.heap.objs.size,_,I.laid (t':=s.toks) (o:=.tup (jd xs lo hi)) (fun b ob q=>Heap.get?_push_of_some _ q) (Nat.le_refl _) ?_,rfl,q _ (I.hok.fresh (Nat.le_refl _))⟩
 exact ⟨Nat.le_trans (g0 xs lo hi) hz,_,(r.drop (HT.sIx xs.length 0 lo)).take (HT.sIx xs.length xs.length hi-HT.sIx xs.length 0 lo),jM.new _ _⟩
def xC (K:PySem.W.Frag):R2:=fun x y H Q=>∃a b xs ys,x=.ref a∧y=.ref b∧SqT K H a xs∧SqT K H b ys∧xs≠[]∧xs.length+ys.length≤sizeLine∧
 (ys=[]→Q (.ref a) H)∧(ys≠[]→∀p,H p=none→Q (.ref p) (upd H p (.tup (xs++ys))))
theorem Vals.iq {xs:List V} {us:List Value} (r:Vals xs us):us=[]↔xs=[]:=by
 cases r with
 | nil=>simp
 | cons _ _=>simp
theorem tq:OpR X (binaryOp .Add) (xC X.K):=by
 intro pins s σ H x y v u Q I rx ry h
 obtain ⟨a,b,xs,ys,rfl,rfl,ha,hb,hx,hz,q1,q2⟩:=h
 cases rx
 cases ry
 obtain ⟨its,r1,p1,_⟩:=I.tuple ha
 obtain ⟨its2,r2,p2,_⟩:=I.tuple hb
 refine HT.tY p1 p2 (fun z=>hx (r1.iq.mp z)) (fun z=>⟨.ref a,H,I,rfl,q1 (r2.iq.mp z)⟩) (fun z=>?_) (by rw [←r1.length,←r2.length];exact hz)
 refine ⟨.ref s.heap.objs.size,_,I.laid (t':=s.toks) (o:=.tup (xs++ys)) (fun b ob q=>Heap.get?_push_of_some _ q) (Nat.le_refl _) ?_,rfl,q2 (fun w=>z (r2.iq.mpr w)) _ (I.hok.fresh (Nat.le_refl _))⟩
 exact ⟨by rw [List.length_append];exact hz,_,r1.append r2,jM.new _ _⟩
end
end L2
namespace L2
open PySem PySem.Spec PyProof.Rows
def ixN (n:Nat) (i:Int):Option Nat:=if 0≤i then (if i < n then some i.toNat else none) else if -(n:Int)≤i then some (i+n).toNat else none
def atI {α:Type} (xs:List α) (i:Int):Option α:=(ixN xs.length i).bind fun j=>xs[j]?
theorem oO {n:Nat} {i:Int} {j:Nat} (h:ixN n i=some j):seqIndex? i n=some j∧j < n∧-(n:Int)≤i∧i < n:=by
 unfold ixN at h
 by_cases h0:0≤i
 ·rw [if_pos h0] at h
  by_cases h1:i < n
  ·rw [if_pos h1] at h
   have e:i.toNat=j:=Option.some.inj h
   exact ⟨by rw [seqIndex_of h0 h1,e],by omega,by omega,h1⟩
  ·rw [if_neg h1] at h;cases h
 ·rw [if_neg h0] at h
  by_cases h1:-(n:Int)≤i
  ·rw [if_pos h1] at h
   have e:(i+n).toNat=j:=Option.some.inj h
   exact ⟨by rw [seqIndex_neg (by omega) h1,e],by omega,h1,by omega⟩
  ·rw [if_neg h1] at h;cases h
theorem iu {α:Type} {xs:List α} {i:Int} {v:α} (h:atI xs i=some v):∃j,seqIndex? i xs.length=some j∧xs[j]?=some v∧j < xs.length∧-(xs.length:Int)≤i∧i < xs.length:=by
 unfold atI at h
 cases e:ixN xs.length i with
 | none=>rw [e] at h;cases h
 | some j=>
  rw [e] at h
  obtain ⟨h1,h2,h3,h4⟩:=oO e
  exact ⟨j,h1,h,h2,h3,h4⟩
theorem lX {α:Type} {xs:List α} {j:Nat} {v:α} (h:xs[j]?=some v):atI xs (j:Int)=some v:=by
 have hj:j < xs.length:=(List.getElem?_eq_some_iff.mp h).1
 have e:ixN xs.length (j:Int)=some j:=by
  unfold ixN
  rw [if_pos (by omega),if_pos (by omega)];simp
 unfold atI;rw [e];exact h
theorem rH {α:Type} (xs:List α) (v:α):atI (xs++[v]) (-1)=some v:=by
 have hl:(xs++[v]).length=xs.length+1:=by simp
 have e:ixN (xs++[v]).length (-1)=some xs.length:=by
  unfold ixN
  rw [hl,if_neg (by decide),if_pos (by omega)]
  congr 1
  omega
 unfold atI
 rw [e]
 show (xs++[v])[xs.length]?=some v
 simp
def lY (b:Expr):Prop:=∀o i,subscripted b false o i=operate [o,i] (getItem o i)
def IxR (X:Cx) (r:R2):Prop:=
 ∀(value slice:Expr) (pins:List (Addr×Obj)) (s:Shared) (σ:St) (H:Hp) (x y:V) (v u:Value) (Q:VK),Inv X pins σ H s→RelV x v→RelV y u→r x y H Q→
  subscripted slice false v u=operate [v,u] (getItem v u)→wpAny (model X.prog X.w) X.A (subscriptTail value slice v u) (EP X pins σ Q) X.xe s
def MtR (X:Cx) (id:String) (r:V→List V→Hp→VK→Prop):Prop:=
 ∀(pins:List (Addr×Obj)) (s:Shared) (σ:St) (H:Hp) (x:V) (xs:List V) (v:Value) (us:List Value) (Q:VK),Inv X pins σ H s→RelV x v→Vals xs us→r x xs H Q→
  wpAny (model X.prog X.w) X.A (call (.builtin id) (v::us)) (EP X pins σ Q) X.xe s
section
variable {X:Cx} {a b:Expr} {ta tb:TE} {pos:Pos}
theorem xG {r:R2} (hr:IxR X r) (ha:PE X a ta) (hb:PE X b tb) (hs:lY b):PE X (.Subscript a b pos) (tOp r ta tb):=by
 intro pins s σ H Q I h
 exact Subscript_ (wz ha hb I h fun v u s2 x y H2 I2 rx ry q=>hr a b pins s2 σ H2 x y v u Q I2 rx ry q (hs _ _))
def yH (K:PySem.W.Frag):R2:=fun x y H Q=>∃p xs i v,x=.ref p∧y=.int i∧SqL K H p xs∧atI xs i=some v∧Q v H
def yF (K:PySem.W.Frag):R2:=fun x y H Q=>∃p xs i v,x=.ref p∧y=.int i∧SqT K H p xs∧atI xs i=some v∧Q v H
def yG:R2:=fun x y H Q=>∃z i c,x=.str z∧y=.int i∧z.length≤sizeLine∧atI z.cps.toList i=some c∧Q (.str ⟨#[c]⟩) H
theorem tK:IxR X (yH X.K):=by
 intro value slice pins s σ H x y v u Q I rx ry h hs
 obtain ⟨p,xs,i,z,rfl,rfl,hq,he,q⟩:=h
 cases rx
 obtain ⟨t,rfl⟩:=ry
 obtain ⟨its,r,pl,hz⟩:=I.list hq
 obtain ⟨j,h1,h2,h3,h4,h5⟩:=iu he
 obtain ⟨w,ew,rw'⟩:=r.get h2
 have hl:=r.length
 have hn:=fK
 have fin:EP X pins σ Q w s:=⟨z,H,I,rw',q⟩
 by_cases h0:0≤i
 ·have hj:i.toNat=j:=by
   rw [seqIndex_of h0 h5] at h1
   exact Option.some.inj h1
  exact item_listR pl.isList h0 (by omega) (by rw [hj];simpa using ew) fin hs
 ·have hj:(i+(its.toArray.size:Int)).toNat=j:=by
   rw [seqIndex_neg (by omega) h4] at h1
   rw [List.size_toArray,←hl]
   exact Option.some.inj h1
  exact subscriptTail_builtinR (x:=w) pl.isList.typeIs slot_list_getitem.lookup
   (wpAny_getItem_list_neg (Q:=fun r s'=>r=w∧EP X pins σ Q r s') pl.isList (by omega) (by rw [List.size_toArray] <;> omega) (by omega) (by rw [hj];simpa using ew) ⟨rfl,fin⟩) hs
theorem vZ:IxR X (yF X.K):=by
 intro value slice pins s σ H x y v u Q I rx ry h hs
 obtain ⟨p,xs,i,z,rfl,rfl,hq,he,q⟩:=h
 cases rx
 obtain ⟨t,rfl⟩:=ry
 obtain ⟨its,r,pl,hz⟩:=I.tuple hq
 obtain ⟨j,h1,h2,h3,h4,h5⟩:=iu he
 obtain ⟨w,ew,rw'⟩:=r.get h2
 have hl:=r.length
 have hn:=fK
 have fin:EP X pins σ Q w s:=⟨z,H,I,rw',q⟩
 exact subscriptTail_builtinR (x:=w) pl.typeIs slot_tuple_getitem.lookup
  (getItem_tuple (j:=j) (Q:=fun r s'=>r=w∧EP X pins σ Q r s') pl (by omega) (by omega) (by rw [List.size_toArray,←hl];exact h1) (by simpa using ew) ⟨rfl,fin⟩) hs
theorem wa:IxR X yG:=by
 intro value slice pins s σ H x y v u Q I rx ry h hs
 obtain ⟨z,i,c,rfl,rfl,hz,he,q⟩:=h
 obtain ⟨t,rfl⟩:=rx
 obtain ⟨t',rfl⟩:=ry
 obtain ⟨j,h1,h2,h3,h4,h5⟩:=iu he
 have hl:z.cps.toList.length=z.length:=by simp [Str.length]
 rw [hl] at h1 h4 h5
 have hn:=fK
 exact tail_any (typeIs_str s z t) slot_str_getitem.lookup (getItem_str (c:=c) (by
  have e1:decide (i < -(2^63:Int))=false:=decide_eq_false (by omega)
  have e2:decide (i≥2^63)=false:=decide_eq_false (by omega)
  rw [e1,e2,Bool.or_false]) (by rw [h1];simpa using h2) ⟨.str ⟨#[c]⟩,H,I.tok _,⟨_,rfl⟩,q⟩) hs
theorem nK (its:List Value) (n j:Nat) (u:Value):Obj.mapSeq (·.setIfInBounds j u) {cls:=.type "list",data:=.seq its.toArray n}={cls:=.type "list",data:=.seq (its.set j u).toArray n}:=by
 simp [Obj.mapSeq]
theorem Inv.lst {pins:List (Addr×Obj)} {σ:St} {H:Hp} {s:Shared} {p:Addr} {xs:List V} (I:Inv X pins σ H s) (h:H p=some (.lst xs)):
  ∃(its:List Value) (n:Nat),Vals xs its∧s.heap.get? p=some {cls:=.type "list",data:=.seq its.toArray n}∧xs.length≤sizeLine:=by
 obtain ⟨z,its,n,r,e⟩:=I.hok p _ h
 exact ⟨its,n,r,e,z⟩
theorem Inv.vT {pins:List (Addr×Obj)} {σ:St} {H:Hp} {s:Shared} {p:Addr} {xs ys:List V} {its its':List Value} {n n':Nat} {f:Obj→Obj} (I:Inv X pins σ H s) (h:H p=some (.lst xs))
  (ho:s.heap.get? p=some {cls:=.type "list",data:=.seq its.toArray n}) (hf:f {cls:=.type "list",data:=.seq its.toArray n}={cls:=.type "list",data:=.seq its'.toArray n'}) (r:Vals ys its') (hz:ys.length≤sizeLine) (t:Nat):
  Inv X pins σ (upd H p (.lst ys)) {s with heap:=s.heap.update p f,toks:=t}:=by
 have e:(s.heap.update p f).get? p=some {cls:=.type "list",data:=.seq its'.toArray n'}:=by
  rw [Heap.get?_update_self f ho (by rw [hf] <;> rfl),hf]
 refine I.write (x:=p) (e:=p) (by rw [h];trivial) (.inl rfl) (fun b u hb q=>(Heap.get?_update_other _ _ (Ne.symm hb)).trans q) ⟨_,e⟩ ?_
 exact ⟨hz,its',n',r,e⟩
def xA:V→V→V→Hp→(Hp→Prop)→Prop:=fun o i v H Q=>∃p xs k j,o=.ref p∧i=.int k∧H p=some (.lst xs)∧ixN xs.length k=some j∧Q (upd H p (.lst (xs.set j v)))
theorem set_list:wI X xA:=by
 intro pins s σ H o i v ov iv u Q I ro ri rv h
 obtain ⟨p,xs,k,j,rfl,rfl,hp,hj,q⟩:=h
 cases ro
 obtain ⟨t,rfl⟩:=ri
 obtain ⟨its,n,r,ho,hz⟩:=I.lst hp
 obtain ⟨h1,h2,h3,h4⟩:=oO hj
 have hl:=r.length
 have hn:=fK
 have I':Inv X pins σ (upd H p (.lst (xs.set j v))) {s with heap:=s.heap.update p (Obj.mapSeq (·.setIfInBounds j u))}:=
  I.vT hp ho (nK its n j u) (r.set rv j) (by rw [List.length_set];exact hz) s.toks
 by_cases h0:0≤k
 ·have hk:k.toNat=j:=by
   rw [seqIndex_of h0 h4] at h1
   exact Option.some.inj h1
  exact PySem.W.ki_setAt ho h0 (by omega) (by rw [List.size_toArray,←hl];exact h4) (by rw [hk];exact ⟨_,I',q⟩)
 ·have hk:(k+(its.toArray.size:Int)).toNat=j:=by
   rw [seqIndex_neg (by omega) h3] at h1
   rw [List.size_toArray,←hl]
   exact Option.some.inj h1
  exact PySem.W.ki_setBack ho (by omega) (by rw [List.size_toArray,←hl];exact h3) (by omega) (by rw [hk];exact ⟨_,I',q⟩)
theorem kJ (lo hi:Option Int) (n:Nat):(sliceBounds lo hi none n).1=((HT.sIx n 0 lo:Nat):Int)∧(sliceBounds lo hi none n).2.1=((HT.sIx n n hi:Nat):Int)∧(sliceBounds lo hi none n).2.2=1:=by
 refine ⟨?_,?_,rfl⟩
 ·cases lo with
  | none=>simp [sliceBounds,HT.sIx]
  | some i=>
   simp only [sliceBounds,HT.sIx,Option.getD_none,show (1:Int) > 0 by decide,if_true]
   by_cases h:i < 0
   ·simp only [h,if_true] <;> omega
   ·simp only [h,if_false] <;> omega
 ·cases hi with
  | none=>simp [sliceBounds,HT.sIx]
  | some i=>
   simp only [sliceBounds,HT.sIx,Option.getD_none,show (1:Int) > 0 by decide,if_true]
   by_cases h:i < 0
   ·simp only [h,if_true] <;> omega
   ·simp only [h,if_false] <;> omega
theorem jt (its:List Value) (lo hi:Option Int):slicePick its.toArray lo hi none=((its.drop (HT.sIx its.length 0 lo)).take (HT.sIx its.length its.length hi-HT.sIx its.length 0 lo)).toArray:=by
 obtain ⟨h1,h2,h3⟩:=kJ lo hi its.toArray.size
 unfold slicePick
 rw [h1,h2,h3]
 simp only [sliceRange_one,pick_run,List.size_toArray] <;> rfl
def yB (K:PySem.W.Frag):V→Option Int→Option Int→Hp→VK→Prop:=fun x lo hi H Q=>∃a xs,x=.ref a∧SqL K H a xs∧∀p,H p=none→Q (.ref p) (upd H p (.lst (jd xs lo hi)))
theorem rZ:SlR X (yB X.K):=by
 intro pins s σ H x v vl vu lo hi sl Q I rx hs pl pu h
 obtain ⟨a,xs,rfl,hx,q⟩:=h
 cases rx
 obtain ⟨its,r,ht,hz⟩:=I.list hx
 have hlen:=r.length
 refine ⟨"list",_,slot_list_getitem.lookup,ht.isList.typeIs,?_⟩
 refine wpAny_getItem_list_slice ht.isList hs pl pu .none (by simp) ?_ (by rw [List.size_toArray] <;> omega)
 rw [jt,←hlen]
 refine ⟨.ref s.heap.objs.size,_,I.laid (t':=s.toks) (o:=.lst (jd xs lo hi)) (fun b ob q=>Heap.get?_push_of_some _ q) (Nat.le_refl _) ?_,rfl,q _ (I.hok.fresh (Nat.le_refl _))⟩
 exact ⟨Nat.le_trans (g0 xs lo hi) hz,_,0,(r.drop (HT.sIx xs.length 0 lo)).take (HT.sIx xs.length xs.length hi-HT.sIx xs.length 0 lo),Heap.get?_push_size _ rfl⟩
theorem lS:cW X (.builtin "len") (fun xs H Q=>∃p ys,xs=[.ref p]∧(SqL X.K H p ys∨SqT X.K H p ys)∧Q (.int ys.length) H):=by
 intro pins s σ H xs us Q I r h
 obtain ⟨p,ys,rfl,hq,q⟩:=h
 obtain ⟨u,rfl,rx⟩:=vals1 r
 cases rx
 have hn:=fK
 rcases hq with hq | hq
 ·obtain ⟨its,r',pl,hz⟩:=I.list hq
  have hlen:=r'.length
  exact Calls.call_len_list pl.isList (by simp only [List.size_toArray] <;> omega) ⟨.int ys.length,H,I.tok _,⟨s.toks+1,by rw [List.size_toArray,hlen]⟩,q⟩
 ·obtain ⟨its,r',pl,hz⟩:=I.tuple hq
  have hlen:=r'.length
  exact len_tuple pl (by simp only [List.size_toArray] <;> omega) ⟨.int ys.length,H,I.tok _,⟨s.toks+1,by rw [List.size_toArray,hlen]⟩,q⟩
theorem lR:cW X (.builtin "len") (fun xs H Q=>∃z,xs=[.str z]∧z.length≤sizeLine∧Q (.int z.length) H):=by
 intro pins s σ H xs us Q I r h
 obtain ⟨z,rfl,hz,q⟩:=h
 obtain ⟨u,rfl,t,rfl⟩:=vals1 r
 have hn:=fK
 exact len_str (by omega) ⟨.int z.length,H,I.tok _,⟨_,rfl⟩,q⟩
theorem lQ:cW X (.type "list") (fun xs H Q=>∃p ys,xs=[.ref p]∧(SqL X.K H p ys∨SqT X.K H p ys)∧∀l,H l=none→Q (.ref l) (upd H l (.lst ys))):=by
 intro pins s σ H xs us Q I r h
 obtain ⟨p,ys,rfl,hq,q⟩:=h
 obtain ⟨u,rfl,rx⟩:=vals1 r
 cases rx
 have fin:∀(its:List Value),Vals ys its→ys.length≤sizeLine→∀(h':Heap) (c':Nat),(∀b o',s.heap.get? b=some o'→h'.get? b=some o')→
   h'.get? s.heap.objs.size=some {cls:=.type "list",dict:=none,data:=.seq its.toArray c',slots:=#[]}→EP X pins σ Q (.ref s.heap.objs.size) {s with heap:=h'}:=fun its r' hz h' c' kp e=>
  ⟨.ref s.heap.objs.size,_,I.laid (t':=s.toks) kp (Nat.le_refl _) (show bB X.prog X.w _ h' _ (.lst ys) from ⟨hz,its,c',r',e⟩),rfl,q _ (I.hok.fresh (Nat.le_refl _))⟩
 rcases hq with hq | hq
 ·obtain ⟨its,r',pl,hz⟩:=I.list hq
  have hlen:=r'.length
  obtain ⟨o,ho,hc,n,hd⟩:=pl.isList
  exact call_list_seq p (.inl rfl) ho hc hd (fun h' c' kp e=>fin its r' hz h' c' kp e) (by simp only [List.size_toArray] <;> omega)
 ·obtain ⟨its,r',pl,hz⟩:=I.tuple hq
  have hlen:=r'.length
  obtain ⟨o,ho,hc,n,hd⟩:=pl
  exact call_list_seq p (.inr rfl) ho hc hd (fun h' c' kp e=>fin its r' hz h' c' kp e) (by simp only [List.size_toArray] <;> omega)
theorem jK:cW X (.type "tuple") (fun xs H Q=>∃p ys,xs=[.ref p]∧((SqL X.K H p ys∧∀l,H l=none→Q (.ref l) (upd H l (.tup ys)))∨(SqT X.K H p ys∧Q (.ref p) H))):=by
 intro pins s σ H xs us Q I r h
 obtain ⟨p,ys,rfl,h⟩:=h
 obtain ⟨u,rfl,rx⟩:=vals1 r
 cases rx
 rcases h with ⟨hq,q⟩ | ⟨hq,q⟩
 ·obtain ⟨its,r',pl,hz⟩:=I.list hq
  have hlen:=r'.length
  refine call_tuple_list pl.isList (fun h' kp=>?_) (by simp only [List.size_toArray] <;> omega)
  have I1:Inv X pins σ H {s with heap:=h'}:=I.kept (t':=s.toks) kp
  have I2:Inv X pins σ (upd H h'.objs.size (.tup ys)) {s with heap:=h'.push {cls:=.type "tuple",data:=.seq its.toArray}}:=
   I1.laid (t':=s.toks) (fun b o e=>Heap.get?_push_of_some _ e) (Nat.le_refl _) (show bB X.prog X.w _ _ _ (.tup ys) from ⟨hz,its,r',jM.new _ _⟩)
  exact ⟨.ref h'.objs.size,_,I2,rfl,q _ (I1.hok.fresh (Nat.le_refl _))⟩
 ·obtain ⟨its,r',pl,hz⟩:=I.tuple hq
  exact call_tuple_same pl ⟨.ref p,H,I,rfl,q⟩
def tyV (K:PySem.W.Frag) (T:String) (x:V) (H:Hp):Prop:=match x with
 | .str _=>T="str"
 | .int _=>T="int"
 | .ref p=>(T="list"∧∃xs,SqL K H p xs)∨(T="tuple"∧∃o,K.lookup p=some o∧o.cls=.type "tuple"∧o.dict=none)∨
   (T="dict"∧((∃kvs,H p=some (.dK kvs))∨∃kvs,H p=some (.dT kvs)))∨(T="set"∧∃S n,H p=some (.set S n))
 | _=>False
theorem ux {pins:List (Addr×Obj)} {σ:St} {H:Hp} {s:Shared} {T:String} {x:V} {v:Value} (I:Inv X pins σ H s) (r:RelV x v) (ty:tyV X.K T x H):
  s.TypeIs v T∧∀a,v=.ref a→∃ob,s.heap.get? a=some ob∧ob.dict=none:=by
 cases x with
 | str z=>
  obtain ⟨t,rfl⟩:=r
  cases (show T="str" from ty)
  exact ⟨typeIs_str s z t,fun _ e=>nomatch e⟩
 | int i=>
  obtain ⟨t,rfl⟩:=r
  cases (show T="int" from ty)
  exact ⟨typeIs_int s i t,fun _ e=>nomatch e⟩
 | ref p=>
  cases r
  rcases ty with ⟨rfl,xs,hq⟩ | ⟨rfl,o,hk,hc,hd⟩ | ⟨rfl,hk⟩ | ⟨rfl,S,n,hk⟩
  ·obtain ⟨its,_,pl,_⟩:=I.list hq
   refine ⟨pl.isList.typeIs,fun a e=>?_⟩
   cases e
   obtain ⟨o,n,e,c,hd,_⟩:=pl
   exact ⟨o,e,hd⟩
  ·refine ⟨⟨o,I.kIn p o hk,hc⟩,fun a e=>?_⟩
   cases e
   exact ⟨o,I.kIn _ o hk,hd⟩
  ·have z:∃o,s.heap.get? p=some o∧o.ExactDict:=by
    rcases hk with ⟨kvs,hk⟩ | ⟨kvs,hk⟩
    ·obtain ⟨_,_,_,_,o,_,_,e,ex,_⟩:=I.hok p _ hk
     exact ⟨o,e,ex⟩
    ·obtain ⟨_,_,_,_,o,_,_,e,ex,_⟩:=I.hok p _ hk
     exact ⟨o,e,ex⟩
   obtain ⟨o,e,ex⟩:=z
   refine ⟨⟨o,e,ex.1⟩,fun a e2=>?_⟩
   cases e2
   exact ⟨o,e,ex.2.1⟩
  ·obtain ⟨o,_,_,_,e,ex,_⟩:=I.hok p _ hk
   refine ⟨⟨o,e,ex.1⟩,fun a e2=>?_⟩
   cases e2
   exact ⟨o,e,ex.2.1⟩
 | _=>exact False.elim ty
def tBM (K:PySem.W.Frag) (T:String) (r:V→List V→Hp→VK→Prop) (to:TE) (t:TA):TE:=fun σ H Q=>to σ H fun x H1=>tyV K T x H1∧t σ H1 fun xs H2=>r x xs H2 Q
variable {o e:Expr} {es:List Expr} {to:TE} {t:TA} {name:Str} {apos cpos:Pos} {T id:String} {r:V→List V→Hp→VK→Prop}
theorem xH (pa:PlainAttrs T) (slot:Slot T name id) (hty:typeOf (.builtin id)=pure (.type "method_descriptor")) (hm:MtR X id r) (ho:PE X o to) (ha:PA X (e::es) t)
  (hbase:attributeBase o name X.env (eval o X.env)=eval o X.env:=by rfl)
  (hfew:((backTo cpos (starEach (e::es) X.env)).all (fun x=>!x.1)&&(backToKw cpos (keywordEach [] X.env)).all (fun x=>x.1.isSome)
   &&decide ((e::es).length+([]:List Keyword).length+(if ([]:List Keyword).isEmpty then 0 else 1) < 30))=true:=by rfl)
  (hline:(apos.endLine==cpos.line)=true:=by rfl) (hs:starEach (e::es) X.env=(false,eval e X.env)::starEach es X.env:=by rfl) (hplain:(backTo cpos (starEach es X.env)).any (·.1)=false:=by rfl):
  PE X (.Call (.Attribute o name apos) (e::es) [] cpos) (tBM X.K T r to t):=by
 intro pins s σ H Q I h
 refine wpAny_Call_method_late hbase hfew hline rfl (thn (ho pins s σ H _ I h) fun v s1 ⟨x,H1,I1,r1,ty,q1⟩=>?_)
 obtain ⟨h1,h2⟩:=ux I1 r1 ty
 refine ⟨T,id,pa,slot,hty,h1,h2,?_⟩
 have hA:=ha cpos pins s1 σ H1 _ I1 q1
 rw [hs] at hA ⊢
 refine Calls.callWith_builtin (by show (false||(backTo cpos (starEach es X.env)).any (·.1))=false;rw [hplain] <;> rfl) (Calls.evalArgs_plain ?_)
 exact thn hA fun us s2 ⟨vs,H2,I2,r2,q2⟩=>hm pins s2 σ H2 x vs v us Q I2 r1 r2 q2
end
end L2
namespace L2
open PySem PySem.Spec PyProof.Rows
def MtM (X:Cx) (id:String) (r:V→List V→Hp→VK→Prop):Prop:=
 ∀(pins:List (Addr×Obj)) (s:Shared) (σ:St) (H:Hp) (x:V) (xs:List V) (v:Value) (us:List Value) (Q:VK),Inv X pins σ H s→RelV x v→Vals xs us→r x xs H Q→
  wpAny (model X.prog X.w) X.A (call (.builtin id) (v::us)) (EP X pins σ Q) X.xe s
theorem Vals.one:∀{x:V} {us:List Value},Vals [x] us→∃u,us=[u]∧RelV x u
 | _,_,.cons r .nil=>⟨_,rfl,r⟩
theorem Vals.two:∀{x y:V} {us:List Value},Vals [x,y] us→∃u v,us=[u,v]∧RelV x u∧RelV y v
 | _,_,_,.cons r (.cons q .nil)=>⟨_,_,rfl,r,q⟩
theorem Vals.rep {xs:List V} {us:List Value} (h:Vals xs us):∀k:Nat,Vals (List.replicate k xs).flatten (List.replicate k us).flatten
 | 0=>.nil
 | k+1=>by
  rw [List.replicate_succ,List.replicate_succ,List.flatten_cons,List.flatten_cons]
  exact Vals.append h (Vals.rep h k)
theorem foldl_rep (its:List Value):∀(k:Nat) (acc:List Value),
  List.foldl (fun x1 x2=>x1++x2) acc.toArray (List.replicate k its.toArray)=(acc++(List.replicate k its).flatten).toArray
 | 0,acc=>by simp
 | k+1,acc=>by
  have e:acc.toArray++its.toArray=(acc++its).toArray:=by simp
  have e2:(acc++its)++(List.replicate k its).flatten=acc++(List.replicate (k+1) its).flatten:=by
   rw [List.replicate_succ,List.flatten_cons,List.append_assoc]
  rw [←e2,←foldl_rep its k (acc++its),←e,List.replicate_succ,List.foldl_cons]
section
variable {X:Cx} {pins:List (Addr×Obj)} {σ:St} {H:Hp} {s:Shared} {l b:Addr} {xs ys zs:List V}
theorem Inv.yN {its its':List Value} {n:Nat} {f:Array Value→Array Value} {t':Nat} (I:Inv X pins σ H s) (hH:H l=some (.lst xs))
  (e:s.heap.get? l=some {cls:=.type "list",data:=.seq its.toArray n}) (hf:f its.toArray=its'.toArray) (hv:Vals ys its') (hz:ys.length≤sizeLine):
  Inv X pins σ (upd H l (.lst ys)) {s with heap:=s.heap.update l (Obj.mapSeq f),toks:=t'}:=by
 have q:=PySem.IsL.update e f
 rw [hf] at q
 refine I.write (x:=l) (e:=l) (by rw [hH];exact trivial) (.inl rfl) (fun b' u hb hu=>(Heap.get?_update_other s.heap (Obj.mapSeq f) (Ne.symm hb)).trans hu) ⟨_,q⟩ ?_
 exact ⟨hz,its',_,hv,q⟩
theorem Inv.vU {its:List Value} {t':Nat} (I:Inv X pins σ H s) (hv:Vals ys its) (hz:ys.length≤sizeLine):
  Inv X pins σ (upd H s.heap.objs.size (.lst ys)) {s with heap:=s.heap.push {cls:=.type "list",data:=.seq its.toArray},toks:=t'}:=
 I.laid (fun _ _ q=>Heap.get?_push_of_some _ q) (Nat.le_refl _) ⟨hz,its,0,hv,Heap.get?_push_size _ rfl⟩
theorem Inv.fresh (I:Inv X pins σ H s):H s.heap.objs.size=none:=I.hok.fresh (Nat.le_refl _)
theorem Inv.tE (I:Inv X pins σ H s) (hH:H l=some (.lst xs)):xs.length≤sizeLine∧∃(its:List Value) (n:Nat),Vals xs its∧xs.length=its.length∧s.heap.get? l=some {cls:=.type "list",data:=.seq its.toArray n}:=by
 obtain ⟨z,its,n,r,e⟩:=I.hok l _ hH
 exact ⟨z,its,n,r,r.length,e⟩
theorem qK {n:Nat} (h:n≤sizeLine):Builtin.List.listTooLong n=false:=by
 unfold Builtin.List.listTooLong
 exact decide_eq_false (by omega)
end
section
variable {X:Cx}
def sE:V→List V→Hp→VK→Prop:=fun x vs H Q=>∃l xs y,x=.ref l∧vs=[y]∧H l=some (.lst xs)∧xs.length < sizeLine∧Q .non (upd H l (.lst (xs++[y])))
theorem j6:MtM X "list.append" sE:=by
 intro pins s σ H x vs v us Q I rx rv h
 obtain ⟨l,xs,y,rfl,rfl,hH,hz,q⟩:=h
 cases rx
 obtain ⟨u,rfl,ru⟩:=rv.one
 obtain ⟨z,its,n,r,hl,e⟩:=I.tE hH
 refine call_meets F.slot_list_append ⟨_,e,rfl⟩ F.entry_list_append (F.args_list_append_2 _ _) (PySem.list_append l its.toArray n u (by rw [List.size_toArray];omega)) ⟨e,?_⟩
 refine ⟨.non,_,I.yN (its':=its++[u]) hH e (by simp) (r.append (.cons ru .nil)) ?_,rfl,q⟩
 rw [List.length_append,List.length_singleton]
 omega
def yI:R2:=fun x y H Q=>∃l b xs zs,x=.ref l∧y=.ref b∧H l=some (.lst xs)∧H b=some (.lst zs)∧xs.length+zs.length≤sizeLine∧∀p,H p=none→Q (.ref p) (upd H p (.lst (xs++zs)))
theorem qJ:OpR X (binaryOp .Add) yI:=by
 intro pins s σ H x y v u Q I rx ry h
 obtain ⟨l,b,xs,zs,rfl,rfl,hH,hB,hz,q⟩:=h
 cases rx
 cases ry
 obtain ⟨z,its,n,r,hl,e⟩:=I.tE hH
 obtain ⟨z2,its2,n2,r2,hl2,e2⟩:=I.tE hB
 refine PySem.P.add_list e e2 ?_ (by rw [List.size_toArray,List.size_toArray];omega)
 have ea:its.toArray++its2.toArray=(its++its2).toArray:=by simp
 rw [ea]
 exact ⟨.ref _,_,I.vU (t':=s.toks) (r.append r2) (by rw [List.length_append];omega),rfl,q _ I.fresh⟩
def yE:R2:=fun x y H Q=>∃l k xs,x=.ref l∧y=.int k∧H l=some (.lst xs)∧-(2^63)≤k∧k < 2^63∧xs.length*k.toNat≤sizeLine∧
 ∀p,H p=none→Q (.ref p) (upd H p (.lst (List.replicate k.toNat xs).flatten))
theorem len_rep {α:Type} (xs:List α) (k:Nat):(List.replicate k xs).flatten.length=k*xs.length:=by
 induction k with
 | zero=>simp
 | succ k ih=>rw [List.replicate_succ,List.flatten_cons,List.length_append,ih,Nat.succ_mul,Nat.add_comm]
theorem vG:OpR X (binaryOp .Mult) yE:=by
 intro pins s σ H x y v u Q I rx ry h
 obtain ⟨l,k,xs,rfl,rfl,hH,h1,h2,hz,q⟩:=h
 cases rx
 obtain ⟨t,rfl⟩:=ry
 obtain ⟨z,its,n,r,hl,e⟩:=I.tE hH
 have hlen:its.toArray.size*k.toNat≤sizeLine:=by rw [List.size_toArray,←hl];exact hz
 have hcap:¬its.toArray.size*k.toNat > (2^63-1) / 8:=by
  have:(sizeLine:Nat)≤(2^63-1) / 8:=by decide
  omega
 have hfit:¬(!Builtin.List.listFitsIndex k)=true:=by
  rw [fitsIndex_both h1 h2]
  exact Bool.false_ne_true
 have hlong:¬Builtin.List.listTooLong (its.toArray.size*k.toNat)=true:=by
  rw [qK hlen]
  exact Bool.false_ne_true
 have hnew:List.foldl (fun x1 x2=>x1++x2) #[] (List.replicate (if its.toArray.isEmpty=true then 0 else k.toNat) its.toArray)=(List.replicate k.toNat its).flatten.toArray:=by
  have f0:∀m:Nat,List.foldl (fun x1 x2=>x1++x2) #[] (List.replicate m its.toArray)=(List.replicate m its).flatten.toArray:=fun m=>by
   have:=foldl_rep its m []
   rw [List.nil_append] at this
   exact this
  rw [f0]
  cases its with
  | nil=>simp
  | cons a r'=>rw [if_neg (by simp)]
 refine wpAny_binaryOp_repeat_ref (T:="list") (U:="int") (by decide) ⟨_,e,rfl⟩ (fun s'=>typeIs_int s' k t) noFill_list_mul F.fills_int_mul F.slot_int_rmul repeat_list F.slot_int_index.lookup
  (call_meets F.slot_int_rmul (typeIs_int s k t) F.entry_int_rmul (F.args_int_rmul_2 _ _) (int___rmul___int_list k t l its.toArray n)
   ⟨e,rfl,⟨_,e,rfl⟩,call_meets F.slot_list_mul ⟨_,e,rfl⟩ F.entry_list_mul (F.args_list_mul_2 _ _) (AutoListH.list___mul___list_int_3 l its.toArray n k t hfit hcap hlong) ⟨e,?_⟩⟩)
 rw [hnew]
 exact ⟨.ref _,_,I.vU (t':=s.toks) (r.rep k.toNat) (by rw [len_rep,Nat.mul_comm];exact hz),rfl,q _ I.fresh⟩
end
section
variable {prog:Program} {w:World} {A:Around} {E:Value→Shared→Prop} {s:Shared}
set_option maxRecDepth 100000 in
end
section
variable {X:Cx}
end
end L2
namespace L2
open PySem PySem.Spec PyProof.Rows
section
variable {κ:Type} [DecidableEq κ]
def eF (kvs:List (κ×V)) (k:κ):Option V:=(kvs.find? fun kv=>decide (kv.1=k)).map (·.2)
def putK (kvs:List (κ×V)) (k:κ) (v:V):List (κ×V):=
 if (kvs.any fun kv=>decide (kv.1=k))=true then kvs.map (fun kv=>if kv.1=k then (kv.1,v) else kv) else kvs++[(k,v)]
theorem iw {p:κ×V} {r:List (κ×V)} {k:κ} (e:p.1=k):eF (p::r) k=some p.2:=by simp [eF,List.find?_cons,e]
theorem fR {p:κ×V} {r:List (κ×V)} {k:κ} (e:¬p.1=k):eF (p::r) k=eF r k:=by simp [eF,List.find?_cons,e]
theorem md (k:κ):∀kvs:List (κ×V),(kvs.any fun kv=>decide (kv.1=k))=(eF kvs k).isSome
 | []=>rfl
 | p::r=>by
  rw [List.any_cons]
  by_cases e:p.1=k
  ·simp only [iw e,decide_eq_true e,Bool.true_or,Option.isSome_some]
  ·rw [fR e,decide_eq_false e,Bool.false_or];exact md k r
theorem eY (kvs:List (κ×V)) (k:κ) (v:V):(putK kvs k v).length≤kvs.length+1:=by
 unfold putK
 split
 ·rw [List.length_map];omega
 ·rw [List.length_append,List.length_cons,List.length_nil];omega
theorem jo.dE {o:Option V} {u:Option Value} (r:jo o u):o.isSome=u.isSome:=by
 cases o with
 | none=>cases u with
  | none=>rfl
  | some _=>exact (show False from r).elim
 | some _=>cases u with
  | none=>exact (show False from r).elim
  | some _=>rfl
theorem KV.val {kvs:List (κ×V)} {vs:List (κ×Value)} (r:KV kvs vs) (k:κ):jo (eF kvs k) (valueAt vs k):=by
 unfold KV at r
 induction r with
 | nil=>exact True.intro
 | @cons p q ps qs h t ih=>
  obtain ⟨h1,h2⟩:=h
  by_cases e:p.1=k
  ·have e':q.1=k:=h1.symm.trans e
   have b:valueAt (q::qs) k=some q.2:=by simp [valueAt,List.find?_cons,e']
   rw [iw e,b];exact h2
  ·have e':¬q.1=k:=fun z=>e (h1.trans z)
   have b:valueAt (q::qs) k=valueAt qs k:=by simp [valueAt,List.find?_cons,e']
   rw [fR e,b];exact ih
theorem KV.any {kvs:List (κ×V)} {vs:List (κ×Value)} (r:KV kvs vs) (k:κ):(kvs.any fun kv=>decide (kv.1=k))=vs.any fun kv=>decide (kv.1=k):=by
 unfold KV at r
 induction r with
 | nil=>rfl
 | cons h t ih=>rw [List.any_cons,List.any_cons,ih,h.1]
theorem KV.uO {kvs:List (κ×V)} {vs:List (κ×Value)} (r:KV kvs vs) (k:κ) {y:V} {u:Value} (ry:RelV y u):
  KV (kvs.map fun kv=>if kv.1=k then (kv.1,y) else kv) (vs.map fun kv=>if kv.1=k then (kv.1,u) else kv):=by
 unfold KV at r ⊢
 induction r with
 | nil=>exact .nil
 | @cons p q ps qs h t ih=>
  rw [List.map_cons,List.map_cons]
  refine .cons ?_ ih
  obtain ⟨h1,h2⟩:=h
  by_cases e:p.1=k
  ·rw [if_pos e,if_pos (h1.symm.trans e)];exact ⟨h1,ry⟩
  ·rw [if_neg e,if_neg (fun z=>e (h1.trans z))];exact ⟨h1,h2⟩
theorem KV.put {kvs:List (κ×V)} {vs:List (κ×Value)} (r:KV kvs vs) (k:κ) {y:V} {u:Value} (ry:RelV y u):KV (putK kvs k y) (stored vs k u):=by
 unfold putK stored
 rw [r.any k]
 by_cases e:(vs.any fun kv=>decide (kv.1=k))=true
 ·rw [if_pos e,if_pos e];exact r.uO k ry
 ·rw [if_neg e,if_neg e];exact Paired.snoc r ⟨rfl,ry⟩
theorem KV.length {kvs:List (κ×V)} {vs:List (κ×Value)} (r:KV kvs vs):kvs.length=vs.length:=Paired.length r
end
theorem eD {P:Program} {w:World} {k:Key} {u:Value} (r:RelV (kV k) u):(aW P w).is k u=true:=by
 cases k with
 | inl i=>obtain ⟨t,e⟩:=(show ∃t,u=Value.int i t from r);subst e;exact mK P w i t
 | inr x=>obtain ⟨t,e⟩:=(show ∃t,u=Value.str x t from r);subst e;exact mJ P w x t
theorem kg {P:Program} {w:World}:∀{ks:List Key} {us:List Value},Vals (ks.map kV) us→ItemsAre (aW P w) ks us
 | [],_,r=>by rw [List.map_nil] at r;cases r;exact .nil
 | k::ks,_,r=>by
  rw [List.map_cons] at r
  cases r with
  | cons h t=>exact .cons (eD h) (kg t)
abbrev KT (H:Hp):List (List Key×V)→List (List Key×Addr×Value)→Prop:=Paired fun p q=>p.1=q.1∧H q.2.1=some (.tup (p.1.map kV))∧RelV p.2 q.2.2
theorem KT.val {H:Hp} {kvs:List (List Key×V)} {xs:List (List Key×Addr×Value)} (r:KT H kvs xs) (k:List Key):jo (eF kvs k) ((atKey xs k).map (·.2)):=by
 induction r with
 | nil=>exact True.intro
 | @cons p q ps qs h t ih=>
  obtain ⟨h1,_,h2⟩:=h
  by_cases e:p.1=k
  ·have e':q.1=k:=h1.symm.trans e
   have b:atKey (q::qs) k=some q.2:=by simp [atKey,List.find?_cons,e']
   rw [iw e,b];exact h2
  ·have e':¬q.1=k:=fun z=>e (h1.trans z)
   have b:atKey (q::qs) k=atKey qs k:=by simp [atKey,List.find?_cons,e']
   rw [fR e,b];exact ih
theorem KT.uO {H:Hp} {kvs:List (List Key×V)} {xs:List (List Key×Addr×Value)} (r:KT H kvs xs) (k:List Key) {y:V} {u:Value} (ry:RelV y u):
  KT H (kvs.map fun kv=>if kv.1=k then (kv.1,y) else kv) (xs.map (putAt k u)):=by
 induction r with
 | nil=>exact .nil
 | @cons p q ps qs h t ih=>
  rw [List.map_cons,List.map_cons]
  refine .cons ?_ ih
  obtain ⟨h1,h2,h3⟩:=h
  unfold putAt
  by_cases e:p.1=k
  ·rw [if_pos e,if_pos (h1.symm.trans e)];exact ⟨h1,h2,ry⟩
  ·rw [if_neg e,if_neg (fun z=>e (h1.trans z))];exact ⟨h1,h2,h3⟩
theorem KT.put {H:Hp} {kvs:List (List Key×V)} {xs:List (List Key×Addr×Value)} (r:KT H kvs xs) (k:List Key) {b:Addr} {y:V} {u:Value} (hb:H b=some (.tup (k.map kV))) (ry:RelV y u):
  KT H (putK kvs k y) (storedH xs k b u):=by
 have e:(kvs.any fun kv=>decide (kv.1=k))=(atKey xs k).isSome:=by
  rw [md,(r.val k).dE,Option.isSome_map]
 unfold putK storedH
 rw [e]
 by_cases q:(atKey xs k).isSome=true
 ·rw [if_pos q,if_pos q];exact r.uO k ry
 ·rw [if_neg q,if_neg q];exact Paired.snoc r ⟨rfl,hb,ry⟩
theorem KT.keeps {H H':Hp} {kvs:List (List Key×V)} {xs:List (List Key×Addr×Value)} (r:KT H kvs xs) (ht:∀b ys,H b=some (.tup ys)→H' b=some (.tup ys)):KT H' kvs xs:=
 Paired.vS r fun _ _ z=>⟨z.1,ht _ _ z.2.1,z.2.2⟩
section
variable {P:Program} {w:World} {H:Hp} {h:Heap} {a:Addr}
theorem uc {u:HO} (ok:HOk P w H h) (e:Rd H a u):bB P w H h a u:=e.ok ok
theorem jb {kvs:List (Key×V)} (ok:HOk P w H h) (e:Rd H a (.dK kvs)):kvs.length≤sizeLine∧(a==sysModules)=false∧∃vs,KV kvs vs∧h.DictOf (aW P w) a vs:=
 show bB P w H h a (.dK kvs) from uc ok e
theorem jc {kvs:List (Key×V)} (ok:HOk P w H h) (e:H a=some (.dK kvs)):kvs.length≤sizeLine∧(a==sysModules)=false∧∃vs,KV kvs vs∧h.DictOf (aW P w) a vs:=jb ok (.inl e)
theorem iX {ks:List Key} (ok:HOk P w H h) (e:H a=some (.tup (ks.map kV))):(tupleKind (aW P w)).is h ks a:=by
 obtain ⟨_,its,r,o,h1,h2,⟨n,h3⟩,_⟩:=(show bB P w H h a (.tup (ks.map kV)) from ok a _ e)
 exact ⟨o,its.toArray,n,h1,h2,h3,by simpa using kg r⟩
theorem mZ {kvs:List (List Key×V)} (ok:HOk P w H h) (e:Rd H a (.dT kvs)):kvs.length≤sizeLine∧(a==sysModules)=false∧
  ∃xs,KT H kvs xs∧h.DictOfH (tupleKind (aW P w)) a xs:=by
 obtain ⟨z,y,xs,r,o,es,ep,h1,h2,h3,h4,h5⟩:=(show bB P w H h a (.dT kvs) from uc ok e)
 refine ⟨z,y,xs,r,o,es,ep,h1,h2,h3,h4,fun x hx=>?_,h5⟩
 have all:∀{l:List (List Key×V)} {m:List (List Key×Addr×Value)},KT H l m→∀x∈m,(tupleKind (aW P w)).is h x.1 x.2.1:=by
  intro l m q
  induction q with
  | nil=>intro x hx;exact nomatch hx
  | @cons p q ps qs hq t ih=>
   intro x hx
   rcases List.mem_cons.mp hx with e | hx
   ·subst e
    exact iX ok (by rw [←hq.1];exact hq.2.1)
   ·exact ih x hx
 exact all r x hx
theorem xV {kvs:List (List Key×V)} (ok:HOk P w H h) (e:H a=some (.dT kvs)):kvs.length≤sizeLine∧(a==sysModules)=false∧
  ∃xs,KT H kvs xs∧h.DictOfH (tupleKind (aW P w)) a xs:=mZ ok (.inl e)
end
def jN (H:Hp) (a:Addr) (y:V) (r:Option V):Prop:=
 (∃kvs k,Rd H a (.dK kvs)∧y=kV k∧r=eF kvs k)∨∃kvs k b,Rd H a (.dT kvs)∧y=.ref b∧H b=some (.tup (k.map kV))∧r=eF kvs k
def t8 (H:Hp) (a:Addr) (y v:V) (H':Hp):Prop:=
 (∃kvs k,H a=some (.dK kvs)∧y=kV k∧kvs.length < sizeLine∧H'=upd H a (.dK (putK kvs k v)))∨
 ∃kvs k b,H a=some (.dT kvs)∧y=.ref b∧H b=some (.tup (k.map kV))∧kvs.length < sizeLine∧H'=upd H a (.dT (putK kvs k v))
theorem jN.k {H:Hp} {a:Addr} {kvs:List (Key×V)} {k:Key} (e:H a=some (.dK kvs)):jN H a (kV k) (eF kvs k):=.inl ⟨kvs,k,.inl e,rfl,rfl⟩
theorem t8.k {H:Hp} {a:Addr} {kvs:List (Key×V)} {k:Key} {v:V} (e:H a=some (.dK kvs)) (hl:kvs.length < sizeLine):t8 H a (kV k) v (upd H a (.dK (putK kvs k v))):=.inl ⟨kvs,k,e,rfl,hl,rfl⟩
section
variable {X:Cx} {pins:List (Addr×Obj)} {σ:St} {H:Hp} {s:Shared} {a:Addr} {y v:V} {u r:Value} {o:Option V} {A:Around} {E:Value→Shared→Prop}
theorem Inv.big (I:Inv X pins σ H s):sysModules < s.heap.objs.size:=by
 have h:mainGlobals < s.heap.objs.size:=(I.mod.glob.keeps I.bk).lt
 exact Nat.lt_trans (by decide) h
theorem pR {Q:Value→Shared→Prop} (hu:A.units+1 < cLine) (I:Inv X pins σ H s) (g:jN H a y (some v)) (ry:RelV y u) (h:∀w' s',Inv X pins σ H s'→RelV v w'→Q w' s'):
  wpAny (model X.prog X.w) A (getItem (.ref a) u) Q E s:=by
 rcases g with ⟨kvs,k,e,ey,l⟩ | ⟨kvs,k,b,e,ey,eb,l⟩
 ·subst ey
  obtain ⟨z,hd,vs,rel,dd⟩:=jb I.hok e
  obtain ⟨w',hw,rw'⟩:=jo.some_of (v:=v) (o:=valueAt vs k) (by rw [l];exact rel.val k)
  exact wpAny_getItem_of (eD ry) dd.mapOf hw (h w' _ (I.tok _) rw')
 ·subst ey
  cases (show u=Value.ref b from ry)
  obtain ⟨z,hd,xs,rel,dd⟩:=mZ I.hok e
  obtain ⟨w',hw,rw'⟩:=jo.some_of (v:=v) (o:=(atKey xs k).map (·.2)) (by rw [l];exact rel.val k)
  obtain ⟨p,hp,hp2⟩:=Option.map_eq_some_iff.mp hw
  refine wpAny_getItem_heap (tupleKind_room_in1 hu) (iX I.hok eb) dd hp ?_
  rw [hp2]
  exact h w' _ (I.tok _) rw'
theorem y2 {Q:Value→Shared→Prop} (hu:A.units+1 < cLine) (I:Inv X pins σ H s) (g:jN H a y o) (ry:RelV y u) (h:∀s',Inv X pins σ H s'→Q (.bool o.isSome) s'):
  wpAny (model X.prog X.w) A (compareOp .In u (.ref a)) Q E s:=by
 rcases g with ⟨kvs,k,e,ey,l⟩ | ⟨kvs,k,b,e,ey,eb,l⟩
 ·subst ey
  obtain ⟨z,hd,vs,rel,dd⟩:=jb I.hok e
  refine wpAny_in_of (eD ry) hd dd.mapOf ?_
  rw [←(rel.val k).dE,←l]
  exact h _ (I.tok _)
 ·subst ey
  cases (show u=Value.ref b from ry)
  obtain ⟨z,hd,xs,rel,dd⟩:=mZ I.hok e
  refine wpAny_in_heap (tupleKind_room_in1 hu) (iX I.hok eb) hd dd ?_
  have q:=(rel.val k).dE
  rw [Option.isSome_map] at q
  rw [←q,←l]
  exact h _ (I.tok _)
theorem tU {Q:Value→Shared→Prop} (hu:A.units+1 < cLine) (I:Inv X pins σ H s) (g:jN H a y o) (ry:RelV y u) (h:∀s',Inv X pins σ H s'→Q (.bool (!o.isSome)) s'):
  wpAny (model X.prog X.w) A (compareOp .NotIn u (.ref a)) Q E s:=by
 rcases g with ⟨kvs,k,e,ey,l⟩ | ⟨kvs,k,b,e,ey,eb,l⟩
 ·subst ey
  obtain ⟨z,hd,vs,rel,dd⟩:=jb I.hok e
  refine wpAny_notIn_of (eD ry) hd dd.mapOf ?_
  rw [←(rel.val k).dE,←l]
  exact h _ (I.tok _)
 ·subst ey
  cases (show u=Value.ref b from ry)
  obtain ⟨z,hd,xs,rel,dd⟩:=mZ I.hok e
  refine wpAny_notIn_heap (tupleKind_room_in1 hu) (iX I.hok eb) hd dd ?_
  have q:=(rel.val k).dE
  rw [Option.isSome_map] at q
  rw [←q,←l]
  exact h _ (I.tok _)
theorem ft {h':Heap} {t':Nat} {ob:HO} (I:Inv X pins σ H s) (mu:Mut (H a)) (hs:Heap.SameBut a s.heap h') (he:∃q,h'.get? a=some q) (new:bB X.prog X.w (upd H a ob) h' a ob):
  Inv X pins σ (upd H a ob) {s with heap:=h',toks:=t'}:=
 I.write (x:=a) (e:=a) mu (.inl rfl) (fun b q hb z=>(hs.2 b hb).trans z) he new
theorem gP {P:Program} {w:World} {H':Hp} {h':Heap} {kvs:List (Key×V)} {vs:List (Key×Value)} (z:kvs.length≤sizeLine) (hd:(a==sysModules)=false) (rel:KV kvs vs) (dd:h'.DictOf (aW P w) a vs):
  bB P w H' h' a (.dK kvs):=⟨z,hd,vs,rel,dd⟩
theorem pQ {H':Hp} {Q:Unit→Shared→Prop} (hu:A.units+1 < cLine) (I:Inv X pins σ H s) (g:t8 H a y v H') (ry:RelV y u) (rv:RelV v r) (h:∀s',Inv X pins σ H' s'→Q () s'):
  wpAny (model X.prog X.w) A (setItem (.ref a) u r) Q E s:=by
 rcases g with ⟨kvs,k,e,ey,l,eH⟩ | ⟨kvs,k,b,e,ey,eb,l,eH⟩
 ·subst ey eH
  obtain ⟨z,hd,vs,rel,dd⟩:=jc I.hok e
  have hz:vs.length≤sizeLine:=by rw [←rel.length];exact z
  have hl:(putK kvs k v).length≤sizeLine:=by have:=eY kvs k v;omega
  refine wpAny_setItem_pairs (hsz:=hz) (eD ry) dd fun h' dd' hs=>h _ ?_
  have he:∃q,h'.get? a=some q:=let ⟨q,_,_,hq,_⟩:=dd';⟨q,hq⟩
  exact ft I (by rw [e];exact True.intro) hs he (gP hl hd (rel.put k rv) dd')
 ·subst ey eH
  cases (show u=Value.ref b from ry)
  obtain ⟨z,hd,xs,rel,dd⟩:=xV I.hok e
  have hz:xs.length≤sizeLine:=by rw [←Paired.length rel];exact z
  have hl:(putK kvs k v).length≤sizeLine:=by have:=eY kvs k v;omega
  refine wpAny_setItem_heap (hsz:=hz) (tupleKind_room_in1 hu) (iX I.hok eb) dd fun h' dd' hs=>h _ ?_
  obtain ⟨q,es,ep,hq,h2,h3,h4,_,h5⟩:=dd'
  refine ft I (by rw [e];exact True.intro) hs ⟨q,hq⟩ ⟨hl,hd,_,(rel.put k eb rv).keeps fun c ys ec=>?_,q,es,ep,hq,h2,h3,h4,h5⟩
  rw [av (xP ec e (fun z=>nomatch z))]
  exact ec
end
section
variable {X:Cx} {pins:List (Addr×Obj)} {σ:St} {H:Hp} {s:Shared} {a:Addr} {kvs:List (Key×V)} {k:Key} {u:Value} {A:Around} {E:Value→Shared→Prop}
theorem xW {Q:Value→Shared→Prop} (I:Inv X pins σ H s) (e:Rd H a (.dK kvs)) (h:∀t s',Inv X pins σ H s'→Q (.int kvs.length t) s'):wpAny (model X.prog X.w) A (call (.builtin "len") [.ref a]) Q E s:=by
 obtain ⟨z,hd,vs,rel,dd⟩:=jb I.hok e
 refine call_len_dict hd dd (by rw [←rel.length];rw [sizeLine_eq] at z;omega) ?_
 rw [←rel.length]
 exact h _ _ (I.tok _)
end
theorem ng {X:Cx} {pins:List (Addr×Obj)} {σ:St} {H:Hp} {s:Shared} {a:Addr} {y:V} {o:Option V} (I:Inv X pins σ H s) (g:jN H a y o):s.TypeIs (.ref a) "dict":=by
 rcases g with ⟨kvs,k,e,_,_⟩ | ⟨kvs,k,b,e,_,_,_⟩
 ·obtain ⟨_,_,vs,_,dd⟩:=jb I.hok e
  exact dd.typeIs
 ·obtain ⟨_,_,xs,_,dd⟩:=mZ I.hok e
  exact dd.typeIs
section
variable {X:Cx} {o i e value:Expr} {pos pos' tpos:Pos} {td ty tv:TE}
end
theorem fe {P:Program} {w:World} {H:Hp} (h:Heap) (hb:sysModules < h.objs.size):bB P w H (h.push {cls:=.type "dict",data:=.dict #[]}) h.objs.size (.dK []):=
 ⟨Nat.zero_le _,beq_eq_false_iff_ne.mpr (Ne.symm (Nat.ne_of_lt hb)),[],.nil,Heap.DictOf.new h⟩
def uC:TE:=fun _ H Q=>∀p,H p=none→Q (.ref p) (upd H p (.dK []))
section
variable {X:Cx} {pos:Pos}
theorem qD:PE X (.Dict [] [] pos) uC:=fun pins s σ H Q I h=>
 wpAny_Dict_empty ⟨.ref s.heap.objs.size,_,I.laid (a:=s.heap.objs.size) (o:=.dK []) (t':=s.toks) (fun _ _ q=>Heap.get?_push_of_some _ q) (Nat.le_refl _) (fe s.heap I.big),rfl,h _ (I.hok.fresh (Nat.le_refl _))⟩
end
def kG:List (TE×TE)→St→Hp→(List (V×V)→Hp→Prop)→Prop
 | [],_,H,Q=>Q [] H
 | (tk,tv)::r,σ,H,Q=>tk σ H fun x H1=>tv σ H1 fun y H2=>kG r σ H2 fun ps H3=>Q ((x,y)::ps) H3
abbrev VV:List (V×V)→List (Value×Value)→Prop:=Paired fun p q=>RelV p.1 q.1∧RelV p.2 q.2
def PPs (X:Cx) (pos:Pos) (keys:List (Option Expr)) (values:List Expr) (trs:List (TE×TE)):Prop:=
 ∀(pins:List (Addr×Obj)) (s:Shared) (σ:St) (H:Hp) (Q:List (V×V)→Hp→Prop),Inv X pins σ H s→kG trs σ H Q→
  wpAny (model X.prog X.w) X.A (evalPairs (pairTrees keys values X.env pos)) (fun vs s'=>∃ps H',Inv X pins σ H' s'∧VV ps vs∧Q ps H') X.xe s
theorem sM {X:Cx} {pos:Pos}:PPs X pos [] [] []:=fun pins s σ H Q I h=>pairTrees_nil_walk ⟨[],H,I,.nil,h⟩
theorem qx {X:Cx} {pos:Pos} {k v:Expr} {ks:List (Option Expr)} {vs:List Expr} {tk tv:TE} {trs:List (TE×TE)} (hk:PE X k tk) (hv:PE X v tv) (hr:PPs X pos ks vs trs):
  PPs X pos (some k::ks) (v::vs) ((tk,tv)::trs):=fun pins s σ H Q I h=>
 pairTrees_cons_walk (thn (hk pins s σ H _ I h) fun u s1 ⟨x,H1,I1,rx,q1⟩=>thn (hv pins s1 σ H1 _ I1 q1) fun w2 s2 ⟨y,H2,I2,ry,q2⟩=>
  thn (hr pins s2 σ H2 _ I2 q2) fun ws s3 ⟨ps,H3,I3,rel,q3⟩=>⟨(x,y)::ps,H3,I3,.cons ⟨rx,ry⟩ rel,q3⟩)
def aA (kvs more:List (Key×V)):List (Key×V):=more.foldl (fun acc kv=>putK acc kv.1 kv.2) kvs
theorem KV.merge:∀{more:List (Key×V)} {rs:List (Key×Value)} {kvs:List (Key×V)} {vs:List (Key×Value)},KV more rs→KV kvs vs→KV (aA kvs more) (merged vs rs):=by
 intro more rs kvs vs r
 unfold KV at r
 induction r generalizing kvs vs with
 | nil=>intro q;exact q
 | @cons p q ps qs h t ih=>
  intro r0
  have e:KV (putK kvs p.1 p.2) (stored vs q.1 q.2):=by
   have:=r0.put p.1 h.2
   rw [←h.1];exact this
  exact ih e
theorem cf:∀(more kvs:List (Key×V)),(aA kvs more).length≤kvs.length+more.length
 | [],kvs=>by show kvs.length≤kvs.length+0;omega
 | p::r,kvs=>by
  have h1:=cf r (putK kvs p.1 p.2)
  have h2:=eY kvs p.1 p.2
  show (aA (putK kvs p.1 p.2) r).length≤_
  rw [List.length_cons];omega
theorem jk {P:Program} {w:World}:∀{kvs:List (Key×V)} {ws:List (Value×Value)},VV (kvs.map fun kv=>(kV kv.1,kv.2)) ws→∃rs,Carries (aW P w) ws rs∧KV kvs rs
 | [],_,r=>by rw [List.map_nil] at r;cases r;exact ⟨[],True.intro,.nil⟩
 | p::kvs,_,r=>by
  rw [List.map_cons] at r
  cases r with
  | @cons a b as bs h t=>
   obtain ⟨rs,c,q⟩:=jk (P:=P) (w:=w) t
   obtain ⟨b1,b2⟩:=b
   exact ⟨(p.1,b2)::rs,⟨eD h.1,rfl,c⟩,.cons ⟨rfl,h.2⟩ q⟩
def ua (trs:List (TE×TE)):TE:=fun σ H Q=>∀p,H p=none→kG trs σ (upd H p (.dK [])) fun ps H2=>H2 p=some (.dK [])∧∃kvs:List (Key×V),ps=kvs.map (fun kv=>(kV kv.1,kv.2))∧kvs.length≤15∧Q (.ref p) (upd H2 p (.dK (aA [] kvs)))
theorem sV {X:Cx} {pos:Pos} {keys:List (Option Expr)} {values:List Expr} {trs:List (TE×TE)} (h:PPs X pos keys values trs) (hall:keys.all (·.isSome)=true) (hl:keys.length=values.length) (h0:keys≠[])
  (h15:keys.length≤15):PE X (.Dict keys values pos) (ua trs):=by
 intro pins s σ H Q I q
 have hn:=I.hok.fresh (Nat.le_refl s.heap.objs.size)
 have I1:=I.laid (a:=s.heap.objs.size) (o:=.dK []) (h':=s.heap.push {cls:=.type "dict",data:=.dict #[]}) (t':=s.toks) (fun _ _ q=>Heap.get?_push_of_some _ q) (Nat.le_refl _) (fe s.heap I.big)
 refine wpAny_Dict_walk (knd:=aW X.prog X.w) hall hl h0 h15 (thn (h pins _ σ _ _ I1 (q _ hn)) fun ws s2 ⟨ps,H2,I2,rel,e,kvs,ep,lk,q2⟩=>?_)
 subst ep
 obtain ⟨rs,c,rk⟩:=jk (P:=X.prog) (w:=X.w) rel
 obtain ⟨z,hd,vs0,r0,dd⟩:=jc I2.hok e
 cases r0
 refine ⟨rs,c,dd,fun h' dd' hs=>⟨.ref s.heap.objs.size,_,?_,rfl,q2⟩⟩
 have hz:(aA [] kvs).length≤sizeLine:=by
  have h1:=cf kvs []
  rw [List.length_nil] at h1
  rw [sizeLine_eq];omega
 have he:∃q,h'.get? s.heap.objs.size=some q:=let ⟨q,_,_,hq,_⟩:=dd';⟨q,hq⟩
 exact ft I2 (by rw [e];exact True.intro) hs he (gP hz hd (rk.merge .nil) dd')
section
variable {X:Cx} {pins:List (Addr×Obj)} {σ:St} {H:Hp} {s:Shared} {a:Addr} {y d:V} {u r:Value} {o:Option V} {A:Around} {E:Value→Shared→Prop}
end
section
variable {X:Cx} {o e f:Expr} {apos cpos:Pos} {td ty tx:TE}
end
section
variable {X:Cx} {pins:List (Addr×Obj)} {σ:St} {H:Hp} {s:Shared} {a:Addr} {kvs:List (Key×V)} {A:Around} {E:Value→Shared→Prop}
theorem rf {Q:Value→Shared→Prop} (I:Inv X pins σ H s) (e:Rd H a (.dK kvs)) (h:∀p s',H p=none→Inv X pins σ (upd H p (.dK kvs)) s'→Q (.ref p) s'):wpAny (model X.prog X.w) A (call (.type "dict") [.ref a]) Q E s:=by
 obtain ⟨z,hd,vs,rel,dd⟩:=jb I.hok e
 refine kt_call_dict hd dd (by rw [←rel.length];exact z) fun h' dd' hs=>?_
 refine h _ _ (I.hok.fresh (Nat.le_refl _)) (I.laid (a:=s.heap.objs.size) (o:=.dK kvs) (t':=s.toks) (fun b q hq=>?_) (Nat.le_refl _) (gP z (beq_eq_false_iff_ne.mpr (Ne.symm (Nat.ne_of_lt I.big))) rel dd'))
 exact (hs.2 b (Nat.ne_of_lt (Heap.lt_size hq))).trans (Heap.get?_push_of_some _ hq)
end
section
variable {X:Cx} {pins:List (Addr×Obj)} {σ:St} {H:Hp} {s:Shared} {a:Addr} {y:V} {u:Value} {A:Around} {E:Value→Shared→Prop}
end
end L2
namespace Att
open PySem PySem.W PySem.Calls PyProof.Rows
theorem hZ {P:Params} {h:Heap}:∀(ns:List Int) (vs:List Value),WellAll P h vs (ns.map WData.int)→IntsAre vs ns:=by
 intro ns
 induction ns with
 | nil=>
  intro vs w
  rw [List.map_nil] at w
  cases w
  exact .nil
 | cons n ns ih=>
  intro vs w
  rw [List.map_cons] at w
  cases w with
  | cons a b=>
   cases a
   exact .cons _ _ (ih _ b)
theorem o9 {l:OpenLaw} {n:Nat} (hn:l.most=some n) {P:Params} {h:Heap} {args:List WData} {vals:List Value}
  (hpre:l.row.toRowW.claim.pre args=true) (hwl:WellAll P h vals args):
  ∃a vs ns,vals=[Value.ref a]∧args=[WData.list (ns.map WData.int)]∧h.get? a=some {cls:=.type "list",data:=.seq vs.toArray}∧IntsAre vs ns∧ns.length≤n:=by
 have hsh:WShape.hasAll [] args [.list .int]=true:=(pre_splitW hpre).1
 have hc:l.pre.holds [] {args:=args}=true:=(pre_splitW hpre).2
 obtain ⟨d,r,rfl,h1,h2⟩:=hasAllW_cons hsh
 obtain rfl:=hasAllW_nil h2
 obtain ⟨xs,rfl,h3⟩:=hasW_list h1
 obtain ⟨ns,rfl⟩:=items_int h3
 have hlen:ns.length≤n:=by
  unfold OpenLaw.pre at hc
  have h4:(WTm.not (.lt (.lit (.int (n:Int))) (.len (.arg 0)))).holds [] {args:=[.list (ns.map .int)]}=true:=by
   have h4:=(holds_andW hc).1
   rw [hn] at h4
   exact h4
  have h5:=condW_of h4 (w_not (w_lt w_lit (w_len_list (w_arg rfl))))
  rw [List.length_map] at h5
  refine Nat.le_of_not_lt fun q=>?_
  have q':(n:Int) < ((ns.length:Nat):Int):=by omega
  first
   | (rw [decide_eq_true q'] at h5;exact absurd h5 (by decide))
   | (simp at h5;omega)
 cases hwl with
 | cons w1 w2=>
  cases w2
  cases w1 with
  | list ho hall=>exact ⟨_,_,ns,rfl,rfl,ho,hZ ns _ hall,hlen⟩
theorem pe (l:OpenLaw) (args:List WData):l.row.toRowW.claim.post args (.bool true) args=true:=
 postW_of (r:=l.row.toRowW) (X:=(true==true))
  (show WShape.has [] (.bool true) .bool=true by first | rfl | decide | simp [WShape.has,WShape.arms,WShape.armsAll])
  (show (WTm.eq .res (.lit (.bool true))).value [] {args:=args,res:=some (.bool true),after:=args}=some (.bool (true==true)) from w_eq_bool (w_res rfl) w_lit) rfl
theorem nr {l:OpenLaw} {n:Nat} {q:Program} {loose:List Str} {XP:(Str→Option Value)→Heap→Prop} {YP:World→Heap→Prop} {d:DefRec}
  (hn:l.most=some n) (hdf:d.params.defaults=[])
  (call:∀(w:World) (s₀ s₁:Shared) (mg mb:Str→Option Value) (fa:Addr) (o:Obj) (pm cd doc:Value) (a:Addr) (vs:List Value) (ns:List Int),
   Ground q loose [] XP w s₀ mg mb s₁.heap→YP w s₁.heap→
   s₁.heap.get? fa=some o→o.data=.func (docDef d.name d.params d.body d.scope pm cd doc)→s₁.heap.CodeRec cd d.name→mg d.name=some (.ref fa)→
   s₁.heap.get? a=some {cls:=.type "list",data:=.seq vs.toArray}→IntsAre vs ns→ns.length≤n→s₁.gens=#[]→
   codeAny (model l.prog w) callerA (.call (.ref fa) ⟨[.ref a],[]⟩) (fun r s'=>r=.ok (.ret (.bool true))∧OldK s₁.heap s'.heap∧s'.os=s₁.os∧AllBare s'.gens) s₁):
  WalkO q loose XP YP l.row.toRowW d [] (fun f vs=>PySem.call f vs):=by
 intro w s₀ s₁ mg mb G Y fa o pm cd doc dV kV ho hd hcd hD hmg hg args vals as hpre hlay hrd hwl hlo
 obtain rfl:dV=.none:=Dflts.none hD hdf
 obtain rfl:kV=.none:=Dflts.noKw hD
 obtain ⟨a,vs,ns,rfl,rfl,hobj,hints,hlen⟩:=o9 hn hpre hwl
 refine enter_call (codeAny_mono (call w s₀ s₁ mg mb fa o pm cd doc a vs ns G Y ho (fd_plain hd) hcd hmg hobj hints hlen hg) fun r s' hq=>?_)
 obtain ⟨rfl,h2,h3,h4⟩:=hq
 exact ⟨.inl ⟨.bool true,.bool true,[],rfl,fun _=>rfl,.bool true,pe l _,fun _=>⟨List.Pairwise.nil,fun _ hm=>(nomatch hm)⟩⟩,h2,h3,h4⟩
section
variable {prog:Program} {w:World} {A:Around} {E:Value→Shared→Prop} {s:Shared} {K:Frag}
end
end Att
namespace L2
open PySem PySem.Spec PyProof.Rows
theorem gx:∀{vs:List Value} {ns:List Int},IntsAre vs ns→Vals (ns.map V.int) vs
 | _,_,.nil=>.nil
 | _,_,.cons n t h=>.cons ⟨t,rfl⟩ (gx h)
def xY (H:Hp):Prop:=∀b,H b=none∨∃o xs,H b=some (.frz o (.lst xs))
theorem qO {P:Program} {w:World} {K:PySem.W.Frag} {mg mb:Str→Option Value} {CX:CXT} {k:Nat} {fa a:Addr} {fd:FuncData} {x:Str} {sp:Sp} {s₁:Shared} {vs:List Value} {ns:List Int}
  (KX:K.In s₁.heap) (hns:s₁.heap.Ns mainGlobals mg) (hb:s₁.heap.Ns builtinsNs mb) (hbb:∀x:Str,x≠"__name__"→mb x=bootBuiltins x) (hlim:s₁.heap.NoLimit) (hg:s₁.gens=#[])
  (ha:s₁.heap.get? a=some {cls:=.type "list",data:=.seq vs.toArray}) (hi:IntsAre vs ns) (hl:ns.length≤sizeLine) (hr:Room k callerA)
  (F:∀base:Heap,K.In base→base.Ns mainGlobals mg→FnOk P w K mg base CX k fa fd [x] sp) (hbind:∀(s:Shared) (u:Value),BindsTo s fd ⟨[u],[]⟩ [(x,u)])
  (hsp:∀H:Hp,xY H→SqL K H a (ns.map V.int)→sp [.ref a] H (fun v _=>v=.bl true) fun _ _ _=>False)
  (hCX:∀H e s',CX [] H s₁ (fun _ _ _=>False) e s'→False):
  codeAny (model P w) callerA (.call (.ref fa) ⟨[.ref a],[]⟩) (fun r s'=>r=.ok (.ret (.bool true))∧OldK s₁.heap s'.heap∧s'.os=s₁.os∧AllBare s'.gens) s₁:=by
 have rv:=gx hi
 have lenV:=hi.length
 have core:∀H:Hp,xY H→SqL K H a (ns.map V.int)→HOk P w H s₁.heap→(∀b,H b≠none→b=a)→(H a≠none→K.lookup a=none)→
   codeAny (model P w) callerA (.call (.ref fa) ⟨[.ref a],[]⟩) (fun r s'=>r=.ok (.ret (.bool true))∧OldK s₁.heap s'.heap∧s'.os=s₁.os∧AllBare s'.gens) s₁:=by
  intro H hO hS hok hA hK
  have base_of:∀{b:Addr} {o:Obj},s₁.heap.get? b=some o→H b=none→(lF s₁.heap H).get? b=some o:=fun e n=>qR e n
  have noA:∀{b:Addr} {o:Obj} {es:Array DictEntry} {ep:Nat},s₁.heap.get? b=some o→o.data=.dict es ep→H b=none:=fun {b o es ep} e d=>by
   cases q:H b with
   | none=>rfl
   | some u=>
    have e':b=a:=hA b (by rw [q];simp)
    subst e'
    rw [ha] at e;cases e
    have d':Data.seq vs.toArray _=Data.dict es ep:=d
    cases d'
  have nsK:∀{b:Addr} {m:Str→Option Value},s₁.heap.Ns b m→(lF s₁.heap H).Ns b m:=fun {b m} ⟨o,es,ep,e,d,r⟩=>⟨o,es,ep,base_of e (noA e d),d,r⟩
  have hKb:K.In (lF s₁.heap H):=fun b o e=>base_of (KX b o e) (by
   cases q:H b with
   | none=>rfl
   | some u=>
    have e':b=a:=hA b (by rw [q];simp)
    subst e'
    rw [hK (by rw [q];simp)] at e;cases e)
  have hM:Mod K mg (lF s₁.heap H):=⟨hKb,nsK hns,⟨mb,nsK hb,hbb⟩,let ⟨mc,h1,h2⟩:=hlim;⟨mc,nsK h1,h2⟩⟩
  have e0:Env0 P w K mg (lF s₁.heap H) callerA [] s₁ H:=⟨rfl,hM,fun b o e=>tu e,Nat.le_of_eq (pH _ _),trivial,fun b hb=>absurd (show b∈([]:List Addr) from hb) (by simp),hok,.of_eq hg⟩
  refine codeAny_mono ((F _ hKb (nsK hns)).run callerA [] s₁ H ⟨[.ref a],[]⟩ [.ref a] [.ref a] _ _ hr e0 (hbind s₁ (.ref a)) (.cons rfl .nil) (hsp H hO hS)) fun r s' h=>?_
  cases r with
  | error e=>exact (hCX H e s' h).elim
  | ok fl=>
   cases fl with
   | next=>exact False.elim h
   | brk=>exact False.elim h
   | cont=>exact False.elim h
   | ret u=>
    obtain ⟨v,H',os,bare,un,hok',r',q⟩:=h
    have q':v=.bl true:=q
    subst q'
    obtain rfl:u=Value.bool true:=r'
    refine ⟨rfl,OldK.of_keep fun b o e=>?_,os,bare⟩
    cases q:H b with
    | none=>exact un.keep b o e q (by intro z;exact absurd (show b∈([]:List Addr) from z) (by simp)) (by simp)
    | some u=>
     rcases hO b with z | ⟨ob,xs,z⟩
     ·rw [q] at z;cases z
     ·have z2:=un.frzs b ob _ z
      obtain ⟨e1,_⟩:=hok b _ z
      obtain ⟨e2,_⟩:=hok' b _ z2
      rw [e] at e1;cases e1
      exact e2
 cases hk:K.lookup a with
 | some o=>
  have e:=KX a o hk
  rw [ha] at e
  cases e
  refine core (fun _=>none) (fun _=>.inl rfl) (.inr ⟨_,vs.toArray,_,hk,rfl,rfl,rfl,by rw [List.size_toArray,lenV];exact hl,by simpa using rv⟩) (fun b u z=>by have z':(none:Option HO)=some u:=z;cases z') (fun b z=>absurd rfl z) fun z=>absurd rfl z
 | none=>
  refine core (fun b=>if b=a then some (.frz {cls:=.type "list",data:=.seq vs.toArray} (.lst (ns.map V.int))) else none) (fun b=>?_) (.inl (.inr ⟨{cls:=.type "list",data:=.seq vs.toArray},if_pos rfl⟩)) (fun b u z=>?_) (fun b z=>?_) fun _=>hk
  ·by_cases hb:b=a
   ·exact .inr ⟨_,_,if_pos hb⟩
   ·exact .inl (if_neg hb)
  ·by_cases hb:b=a
   ·have z':=(if_pos hb).symm.trans z
    cases z'
    subst hb
    exact ⟨ha,by rw [List.length_map];exact hl,vs,_,rv,ha⟩
   ·have z':=(if_neg hb).symm.trans z
    cases z'
  ·by_cases hb:b=a
   ·exact hb
   ·exact absurd (if_neg hb) z
end L2
namespace L2
open PySem PySem.Spec PyProof.Rows
end L2
namespace L2
open PySem PySem.Spec PyProof.Rows
def gn (s:Stmt):Arguments:=match s with
 | .FunctionDef _ a _ _ _ _ _ _ _ _=>a
 | _=>{posonlyargs:=[],args:=[],vararg:=none,kwonlyargs:=[],kw_defaults:=[],kwarg:=none,defaults:=[]}
def eu (s:Stmt):List Stmt:=match s with
 | .FunctionDef _ _ b _ _ _ _ _ _ _=>b
 | _=>[]
def aD (s:Stmt):Scope:=match s with
 | .FunctionDef _ _ _ _ _ _ sc _ _ _=>sc
 | _=>{kind:=.function,names:=[],isGenerator:=false,isCoroutine:=false}
abbrev CX0:CXT:=fun _ _ _ _ _ _=>False
abbrev E0:XK:=fun _ _ _=>False
theorem xJ {X:Cx}:Passes CX0 X E0:=fun _ _ _ _ _ _ _ h=>h.elim
structure Fun (K:PySem.W.Frag) (x qual:Str) (st:Stmt) (f:Addr) (fd:FuncData):Prop where
 ex:∃(oc:Value) (od:Option Addr) (kV doc pm:Value) (an:Option Addr) (cdv ct:Value) (osl:Array (Option Value)),
  fd=PySem.W.fnOf x qual (gn st) (eu st) (aD st) .none kV doc pm an cdv ct∧K.lookup f=some ⟨oc,od,.func fd,osl⟩∧PySem.W.codeIn K cdv qual=true
 kp:PySem.W.keepIn K (.ref f)=true
section
variable {P:Program} {w:World} {K:PySem.W.Frag} {mg:Str→Option Value} {base:Heap}
theorem Fun.ok {x qual:Str} {st:Stmt} {f:Addr} {fd:FuncData} {N ps:List Str} {k:Nat} {sp:Sp} (F:Fun K x qual st f fd) (S:FnScope N ps (aD st)) (len:∀vs H Q E,sp vs H Q E→vs.length=ps.length)
  (hbody:∀(cdv:Value) (A:Around) (outer:List Env) (s:Shared) (H:Hp) (vs:List V) (Q:VK) (E:XK),Room k (A.deeper (envOfC qual (aD st) s.heap.objs.size f cdv))→sp vs H Q E→
   ∃t,PSs (og CX0 P w K mg base N qual (aD st) f cdv A outer s H E).nox (eu st) t∧t {nx:=fun _ H'=>Q .non H',rt:=Q} (start N vs) H):FnOk P w K mg base CX0 (k+1) f fd ps sp:=by
 obtain ⟨oc,od,kV,doc,pm,an,cdv,ct,osl,rfl,lk,hcd⟩:=F.ex
 refine xT lk hcd S len fun A outer s H vs Q E hr hsp=>?_
 obtain ⟨t,h,q⟩:=hbody cdv A outer s H vs Q E hr hsp
 exact ⟨t,h.nox,q⟩
theorem Fun.binds {x qual:Str} {st:Stmt} {f:Addr} {fd:FuncData} {ps:List Str} (F:Fun K x qual st f fd)
  (h:∀(kV doc pm:Value) (an:Option Addr) (cdv ct:Value) (us:List Value),us.length=ps.length→bindArgs (PySem.W.fnOf x qual (gn st) (eu st) (aD st) .none kV doc pm an cdv ct) ⟨us,[]⟩=pure (ps.zip us)):Binds K fd ps []:=by
 obtain ⟨oc,od,kV,doc,pm,an,cdv,ct,osl,rfl,lk,hcd⟩:=F.ex
 exact .all (h kV doc pm an cdv ct)
end
section
variable {X:Cx}
theorem pW:cW X (.builtin "len") (fun xs H Q=>∃a kvs,xs=[V.ref a]∧H a=some (.dK kvs)∧Q (.int kvs.length) H):=by
 intro pins s σ H xs us Q I r h
 obtain ⟨a,kvs,rfl,ha,q⟩:=h
 obtain ⟨u,rfl,ru⟩:=vals1 r
 cases ru
 exact xW I (.inl ha) fun t s' I'=>⟨.int kvs.length,H,I',⟨t,rfl⟩,q⟩
end
theorem yU {A B:Prop} (h:B):if false=true then A else B:=by
 rw [if_neg Bool.false_ne_true]
 exact h
theorem yT {A B:Prop} (h:A):if true=true then A else B:=by
 rw [if_pos rfl]
 exact h
section
variable {κ:Type} [DecidableEq κ]
end
end L2
namespace L2
open PySem PySem.Spec PyProof.Rows
theorem HOk.off {P:Program} {w:World} {H:Hp} {h h':Heap} {C:Addr} (ok:HOk P w H h) (hC:H C=none) (k:∀b u,b≠C→h.get? b=some u→h'.get? b=some u):HOk P w H h':=by
 intro a o e
 have ne:a≠C:=by rintro rfl;rw [hC] at e;cases e
 refine (ok a o e).jr (fun b u hb q=>k b u ?_ q) (fun _ x=>x) (fun _ _ x=>x)
 rcases hb with rfl | hb
 ·exact ne
 ·rintro rfl;rw [hC] at hb;cases hb
def dG (env:Env):List (Str×NameKind)→List (Str×Addr)→List (Str×Addr)
 | [],acc=>acc
 | (n,k)::r,acc=>if (k==NameKind.free)=true then dG env r ((n,(env.cells.lookup n).getD 0)::acc) else dG env r acc
theorem jg {env:Env} {scope:Scope} (h:∀y∈scope.names,y.2=.free→∃c,env.cells.lookup y.1=some c):closureFor scope env=pure (dG env scope.names []):=by
 have key:∀(names:List (Str×NameKind)) (acc:List (Str×Addr)),(∀y∈names,y.2=.free→∃c,env.cells.lookup y.1=some c)→
   (forIn names acc (fun (x:Str×NameKind) (r:List (Str×Addr))=>match x with
    | (name,kind)=>if (kind==NameKind.free)=true then do let a←cellOf env name;pure (ForInStep.yield ((name,a)::r)) else pure (ForInStep.yield r)):Sem (List (Str×Addr)))=pure (dG env names acc):=by
  intro names
  induction names with
  | nil=>intro acc _;rfl
  | cons y r ih=>
   intro acc hy
   obtain ⟨n,k⟩:=y
   have hr:=fun a=>ih a fun z hz=>hy z (List.mem_cons_of_mem _ hz)
   rw [List.forIn_cons]
   unfold dG
   by_cases hk:(k==NameKind.free)=true
   ·have hk':k=.free:=by simpa using hk
    obtain ⟨c,hc⟩:=hy (n,k) List.mem_cons_self hk'
    have e:cellOf env n=pure c:=by unfold cellOf;rw [hc]
    simp only [hk,if_true,e,hc,Option.getD_some]
    exact hr _
   ·simp only [hk,if_false]
    exact hr _
 have k:=key scope.names [] h
 unfold closureFor
 dsimp only
 rw [k]
 rfl
theorem gR {env:Env} {x:Str} {c:Addr}:∀(names:List (Str×NameKind)) (acc:List (Str×Addr)),(∀y∈names,y.2=.free→∃c,env.cells.lookup y.1=some c)→
  (∀d,acc.lookup x=some d→env.cells.lookup x=some d)→(dG env names acc).lookup x=some c→env.cells.lookup x=some c
 | [],acc,_,ha,h=>ha c h
 | (n,k)::r,acc,hy,ha,h=>by
  unfold dG at h
  have hr:=fun z hz=>hy z (List.mem_cons_of_mem _ hz)
  by_cases hk:(k==NameKind.free)=true
  ·rw [if_pos hk] at h
   refine gR r _ hr (fun d hd=>?_) h
   have hk':k=.free:=by simpa using hk
   obtain ⟨c',hc⟩:=hy (n,k) List.mem_cons_self hk'
   rw [List.lookup_cons] at hd
   cases hx:x==n with
   | true=>
    rw [hx] at hd
    have e:x=n:=by simpa using hx
    rw [e,hc]
    rw [hc] at hd
    exact hd
   | false=>
    rw [hx] at hd
    exact ha d hd
  ·rw [if_neg hk] at h
   exact gR r _ hr ha h
theorem jh {env:Env} {x:Str}:∀(names:List (Str×NameKind)) (acc:List (Str×Addr)),(∃c,acc.lookup x=some c)→∃c,(dG env names acc).lookup x=some c
 | [],_,h=>h
 | (n,k)::r,acc,h=>by
  unfold dG
  by_cases hk:(k==NameKind.free)=true
  ·rw [if_pos hk]
   refine jh r _ ?_
   rw [List.lookup_cons]
   cases hx:x==n with
   | true=>exact ⟨_,rfl⟩
   | false=>exact h
  ·rw [if_neg hk]
   exact jh r _ h
theorem gq {env:Env} {x:Str}:∀(names:List (Str×NameKind)) (acc:List (Str×Addr)),(x,NameKind.free)∈names→∃c,(dG env names acc).lookup x=some c
 | [],_,h=>by cases h
 | (n,k)::r,acc,h=>by
  unfold dG
  rcases List.mem_cons.mp h with e | h'
  ·injection e with e1 e2
   subst e1 e2
   rw [if_pos (by rfl)]
   refine jh r _ ⟨(env.cells.lookup x).getD 0,?_⟩
   rw [List.lookup_cons,beq_self_eq_true]
  ·by_cases hk:(k==NameKind.free)=true
   ·rw [if_pos hk];exact gq r _ h'
   ·rw [if_neg hk];exact gq r _ h'
theorem dX {env:Env}:∀{names:List (Str×NameKind)} {x:Str} {j:NameKind},
  (names.map fun (n,k)=>if (k==NameKind.free&&env.scope.kind==.function&&env.kindOf n==some .cell) then (n,NameKind.cell) else (n,k)).lookup x=some j→
  ∃k,names.lookup x=some k∧(j=k∨(k=.free∧j=.cell))
 | [],_,_,h=>by simp at h
 | (n,k)::r,x,j,h=>by
  have h':List.lookup x ((if (k==NameKind.free&&env.scope.kind==.function&&env.kindOf n==some .cell)=true then (n,NameKind.cell) else (n,k))::_)=some j:=h
  rw [List.lookup_cons]
  cases hx:x==n with
  | true=>
   refine ⟨k,rfl,?_⟩
   by_cases hc:(k==NameKind.free&&env.scope.kind==.function&&env.kindOf n==some .cell)=true
   ·rw [if_pos hc,List.lookup_cons,hx] at h'
    simp only [Bool.and_eq_true,beq_iff_eq] at hc
    exact .inr ⟨hc.1.1,(Option.some.inj h').symm⟩
   ·rw [if_neg hc,List.lookup_cons,hx] at h'
    exact .inl (Option.some.inj h').symm
  | false=>
   by_cases hc:(k==NameKind.free&&env.scope.kind==.function&&env.kindOf n==some .cell)=true
   ·rw [if_pos hc,List.lookup_cons,hx] at h'
    exact dX h'
   ·rw [if_neg hc,List.lookup_cons,hx] at h'
    exact dX h'
theorem dY {env:Env}:∀{names:List (Str×NameKind)} {x:Str},names.lookup x=some .free→
  (names.map fun (n,k)=>if (k==NameKind.free&&env.scope.kind==.function&&env.kindOf n==some .cell) then (n,NameKind.cell) else (n,k)).lookup x=some .cell∨
  (names.map fun (n,k)=>if (k==NameKind.free&&env.scope.kind==.function&&env.kindOf n==some .cell) then (n,NameKind.cell) else (n,k)).lookup x=some .free
 | [],_,h=>by simp at h
 | (n,k)::r,x,h=>by
  rw [List.map_cons]
  show List.lookup x ((if (k==NameKind.free&&env.scope.kind==.function&&env.kindOf n==some .cell)=true then (n,NameKind.cell) else (n,k))::_)=_∨List.lookup x ((if (k==NameKind.free&&env.scope.kind==.function&&env.kindOf n==some .cell)=true then (n,NameKind.cell) else (n,k))::_)=_
  rw [List.lookup_cons] at h
  cases hx:x==n with
  | true=>
   rw [hx] at h
   have hk:k=.free:=Option.some.inj h
   by_cases hc:(k==NameKind.free&&env.scope.kind==.function&&env.kindOf n==some .cell)=true
   ·rw [if_pos hc,List.lookup_cons,hx];exact .inl rfl
   ·rw [if_neg hc,List.lookup_cons,hx,hk];exact .inr rfl
  | false=>
   rw [hx] at h
   by_cases hc:(k==NameKind.free&&env.scope.kind==.function&&env.kindOf n==some .cell)=true
   ·rw [if_pos hc,List.lookup_cons,hx];exact dY h
   ·rw [if_neg hc,List.lookup_cons,hx];exact dY h
abbrev blk (X:Cx) (N':List Str) (scope:Scope) (C:Addr) (s₃:Shared) (H₃:Hp) (fp:List Addr) (pl:List (Addr×Obj)):Cx:=
 {X with N:=N',s₀:=s₃,H₀:=H₃,env:=compEnvC scope (dG X.env scope.names []) C X.env,outer:=X.stack,ex:=fp,fn:=fun _=>false,calm:=true,pn:=X.pn++pl,xe:=fun _ _=>False}
structure CompScope (X:Cx) (N':List Str) (caps:List (Option Nat)) (scope:Scope):Prop where
 kind:scope.kind=.function
 nocell:∀y∈scope.names,y.2≠.cell
 names:∀y∈scope.names,y.2=.local→scope.names.lookup y.1=some .local
 caught:∀y∈scope.names,y.2=.free→X.env.kindOf y.1=some .cell∨X.env.kindOf y.1=some .free
 len:caps.length=N'.length
 cap:∀(j i:Nat) (x:Str),caps[j]?=some (some i)→N'[j]?=some x→X.N[i]?=some x∧scope.names.lookup x=some .free
 nd:N'.Nodup
def jJ (caps:List (Option Nat)) (σ:St):St:=caps.map fun o=>o.bind fun i=>(σ[i]?).join
section
variable {X:Cx} {N':List Str} {caps:List (Option Nat)} {scope:Scope} {pins:List (Addr×Obj)} {σ:St} {H:Hp} {s₃:Shared} {fp:List Addr}
theorem CompScope.has (S:CompScope X N' caps scope) (ok:X.Ok):∀y∈scope.names,y.2=.free→∃c,X.env.cells.lookup y.1=some c:=fun y hy e=>ok.has y.1 (S.caught y hy e)
theorem CompScope.look (S:CompScope X N' caps scope) (ok:X.Ok) {x:Str} {c:Addr} (h:(dG X.env scope.names []).lookup x=some c):X.env.cells.lookup x=some c:=
 gR scope.names [] (S.has ok) (fun _ z=>by simp at z) h
theorem Inv.block (S:CompScope X N' caps scope) (I:Inv X pins σ H s₃) (hc:X.calm=true) (hf:∀b∈fp,dg X pins H b) (hlt:∀b∈fp,b < s₃.heap.objs.size) {h₄:Heap} {t₄:Nat} {m₄:Str→Option Value}
  (hn:h₄.Ns s₃.heap.objs.size m₄) (hk:∀b o,s₃.heap.get? b=some o→h₄.get? b=some o):
  Inv (blk X N' scope s₃.heap.objs.size s₃ H fp pins) [] (jJ caps σ) H {s₃ with heap:=h₄,toks:=t₄}:=by
 have ok:=I.ok
 have fresh:∀b o,s₃.heap.get? b=some o→b≠s₃.heap.objs.size:=fun b o e=>Nat.ne_of_lt (Heap.lt_size e)
 have cellOk:∀x c,(dG X.env scope.names []).lookup x=some c→∃v,s₃.heap.IsCell c v:=fun x c e=>I.cell x c (S.look ok e)
 refine ⟨⟨ok.mod,?_,ok.glob,ok.blt,Nat.le_refl _,?_,?_,?_,fun _=>ok.hd hc,ok.frames,.inl rfl,?_,I.bs,?_,?_,?_,I.stack,I.oD⟩,rfl,I.bare,Un.kept hk,?_,?_,I.hok.fresh (Nat.le_refl _),?_,?_,I.hok.kept hk,?_⟩
 ·show (relabel scope X.env).kind=.function
  exact S.kind
 ·intro x y c h1 h2
  exact ok.inj x y c (S.look ok h1) (S.look ok h2)
 ·intro x hx
  have hx':(relabel scope X.env).names.lookup x=some .cell∨(relabel scope X.env).names.lookup x=some .free:=hx
  have key:∀j,(relabel scope X.env).names.lookup x=some j→j=.cell∨j=.free→∃c,(dG X.env scope.names []).lookup x=some c:=by
   intro j hj hjk
   obtain ⟨k,hk1,hk2⟩:=dX hj
   have hm:=PySem.mem_of_lookup hk1
   have hkf:k=.free:=by
    rcases hk2 with rfl | ⟨e,_⟩
    ·rcases hjk with rfl | e
     ·exact absurd rfl (S.nocell _ hm)
     ·exact e
    ·exact e
   subst hkf
   exact gq scope.names [] hm
  rcases hx' with h | h
  ·exact key _ h (.inl rfl)
  ·exact key _ h (.inr rfl)
 ·intro x c h _
  exact absurd (show false=true from h) (by decide)
 ·intro b hb
  refine ⟨Nat.ne_of_lt (hlt b hb),fun x c h=>(hf b hb).2.2.2.2.1 x c (S.look ok h)⟩
 ·exact Nat.le_trans ok.bsz I.sz
 ·intro b o e hb
  rcases (hf b hb).2.2.2.1 with z | z
  ·exact ok.noex b o e z
  ·exact absurd (Nat.lt_of_lt_of_le (Heap.lt_size e) ok.bsz) (Nat.not_lt.mpr z)
 ·intro b hb z
  rcases List.mem_cons.mp (I.iA b z) with e | e
  ·exact (hf b hb).2.1 e
  ·exact (hf b hb).2.2.1 e
 ·refine ⟨m₄,hn,fun j x v e1 e2 e3=>?_⟩
  have e2':(caps.map fun o=>o.bind fun i=>(σ[i]?).join)[j]?=some (some v):=e2
  rw [List.getElem?_map] at e2'
  cases hcj:caps[j]? with
  | none=>rw [hcj] at e2';cases e2'
  | some oi=>
   rw [hcj] at e2'
   have e2'':(oi.bind fun i=>(σ[i]?).join)=some v:=Option.some.inj e2'
   cases oi with
   | none=>cases e2''
   | some i=>
    have hσ:(σ[i]?).join=some v:=e2''
    have hσ':σ[i]?=some (some v):=by
     cases hs:σ[i]? with
     | none=>rw [hs] at hσ;cases hσ
     | some w=>rw [hs] at hσ;rw [show w=some v from hσ]
    obtain ⟨hX,hfr⟩:=S.cap j i x hcj e1
    obtain ⟨m,_,hl⟩:=I.loc
    have hcgt:=S.caught _ (PySem.mem_of_lookup hfr) rfl
    have hvis:Vis X.env.scope x:=by
     rcases hcgt with z | z
     ·exact .inr (.inl z)
     ·exact .inr (.inr z)
    obtain ⟨u,ru,lk⟩:=hl i x v hX hσ' hvis
    refine ⟨u,ru,.inr ⟨?_,?_⟩⟩
    ·exact dY hfr
    ·obtain ⟨c,hcc⟩:=gq (env:=X.env) scope.names [] (PySem.mem_of_lookup hfr)
     refine ⟨c,hcc,?_⟩
     rcases lk with ⟨z,_⟩ | ⟨_,c',hc',hcell⟩
     ·have z':X.env.kindOf x=some .local:=z
      rcases hcgt with q | q
      ·rw [z'] at q;cases q
      ·rw [z'] at q;cases q
     ·have:=S.look I.ok hcc
      rw [this] at hc'
      cases hc'
      obtain ⟨o,ho,hd⟩:=hcell
      exact ⟨o,hk _ _ ho,hd⟩
 ·intro x c h
  obtain ⟨v,o,ho,hd⟩:=cellOk x c h
  exact ⟨v,o,hk _ _ ho,hd⟩
 ·intro x c h
  exact I.freeC x c (S.look ok h)
 ·intro p hp
  have hp':p∈X.pn++pins:=by
   rcases List.mem_append.mp hp with z | z
   ·exact z
   ·cases z
  obtain ⟨e,n,ne,nf,d⟩:=I.pin p hp'
  refine ⟨hk _ _ e,n,fresh _ _ e,fun z=>?_,d⟩
  rcases List.mem_cons.mp (I.iA p.1 z) with q | q
  ·exact ne q
  ·exact nf q
 ·show (caps.map _).length=N'.length
  rw [List.length_map]
  exact S.len
theorem Inv.oB (S:CompScope X N' caps scope) (I:Inv X pins σ H s₃) (hf:∀b∈fp,dg X pins H b) {τ:St} {H':Hp} {s':Shared} (J:Inv (blk X N' scope s₃.heap.objs.size s₃ H fp pins) [] τ H' s') {h'':Heap}
  (hs:∀b u,b≠s₃.heap.objs.size→s'.heap.get? b=some u→h''.get? b=some u):Inv X pins σ H' {s' with heap:=h''}:=by
 have hC:H' s₃.heap.objs.size=none:=J.free
 have u:Un (frs X.stack) fp H H' s₃.heap h'':=by
  have b:=J.base
  have ne:∀x o,s₃.heap.get? x=some o→x≠s₃.heap.objs.size:=fun x o e=>Nat.ne_of_lt (Heap.lt_size e)
  refine ⟨fun x o e n hx hb=>hs _ _ (ne x o e) (b.keep x o e n hx hb),fun x o e n hx hb=>?_,b.free,fun x o e hb=>?_,b.tups,b.frzs,b.tbls⟩
  ·obtain ⟨sl,q⟩:=b.slot x o e n hx hb
   exact ⟨sl,hs _ _ (ne x o e) q⟩
  ·obtain ⟨o',q⟩:=b.there x o e hb
   exact ⟨o',hs _ _ (ne x o e) q⟩
 exact I.call' (s':={s' with heap:=h''}) (ch:=fp) J.os u (J.hok.off hC hs) J.bare fun b hb=>⟨(hf b hb).2.2.2.1,(hf b hb).2.1,(hf b hb).2.2.2.2.1,(hf b hb).2.2.2.2.2⟩
end
end L2
namespace L2
open PySem PySem.Spec PyProof.Rows
def PIf (X:Cx) (ifs:List Expr) (t:TT):Prop:=
 ∀(pins:List (Addr×Obj)) (s:Shared) (σ:St) (H:Hp) (Q:Bool→Hp→Prop),Inv X pins σ H s→t σ H Q→
  wpAny (model X.prog X.w) X.A (forIn ifs true fun c r=>if r=true then do let ok←isTrue c X.env (eval c X.env);pure (ForInStep.yield ok) else pure (ForInStep.yield r)) (TP X pins σ Q) X.xe s
def fA:TT:=fun _ H Q=>Q true H
theorem sQ {X:Cx}:PIf X [] fA:=fun pins s σ H Q I h=>wpAny_tests_nil ⟨H,I,h⟩
theorem sP {X:Cx} {c:Expr} {t:TT} (h:PT X c t):PIf X [c] t:=fun pins s σ H Q I q=>wpAny_tests_one (h pins s σ H Q I q)
def xZ (J:It) (g:TG) (tc:TT) (te:TE) (l:Addr) (Q:VK) (τ0:St) (H0:Hp):Prop:=
 ∃W:Nat→Nat→St→Hp→Prop,(∃m,W 0 m τ0 H0)∧∀i m τ H2,W i m τ H2→
  (J.stop i H2∧Q (.ref l) H2)∨(J.go i H2∧∃N:St→Hp→Prop,(∀τ' H',N τ' H'→∃m',m' < m∧W (i+1) m' τ' H')∧∀x H',J.yld i H2 x H'→g x τ H' fun τ2 H3=>
   tc τ2 H3 fun b H4=>if b=true then te τ2 H4 fun y H5=>∃xs,H5 l=some (.lst xs)∧xs.length < sizeLine∧N τ2 (upd H5 l (.lst (xs++[y]))) else N τ2 H4)
def p7 (caps:List (Option Nat)) (wi:TI) (g:TG) (tc:TT) (te:TE):TE:=fun σ H Q=>wi σ H fun J H1=>∀l,H1 l=none→xZ J g tc te l Q (jJ caps σ) (upd H1 l (.lst []))
section
variable {X:Cx} {N':List Str} {caps:List (Option Nat)} {scope:Scope} {tg iter elt:Expr} {ifs:List Expr} {pos:Pos} {wi:TI} {g:TG} {tc:TT} {te:TE}
theorem upE {M:Model} {A:Around} {α:Type} {t:Sem α} {Q:α→Shared→Prop} {E:Value→Shared→Prop} {s:Shared} (h:wpAny M A t Q (fun _ _=>False) s):wpAny M A t Q E s:=wpAny_mono h (fun _ _ q=>q) fun _ _ f=>f.elim
theorem pS (S:CompScope X N' caps scope) (hc:X.calm=true) (hg:∀C s₃ H₃ fp pl,PG (blk X N' scope C s₃ H₃ fp pl) tg g) (hif:∀C s₃ H₃ fp pl,PIf (blk X N' scope C s₃ H₃ fp pl) ifs tc)
  (he:∀C s₃ H₃ fp pl,PE (blk X N' scope C s₃ H₃ fp pl) elt te) {pins:List (Addr×Obj)} {σ:St} {H3:Hp} {s3:Shared} {h₁:Heap} {t₁:Nat} {m₁:Str→Option Value} {it l:Addr} {fp:List Addr} {tn:Nat→Heap→Prop} {J:It}
  (I3:Inv X pins σ H3 s3) (T:Turn X.prog X.w X.K tg J fp it tn) (st3:tn 0 h₁) (hf3:∀b∈fp,dg X pins H3 b) (hlt3:∀b∈fp,b < s3.heap.objs.size) (hns₁:h₁.Ns s3.heap.objs.size m₁) (keep3:∀b o,s3.heap.get? b=some o→h₁.get? b=some o)
  {Q:VK} {RR:Value→Addr→Result→Shared→Prop} {W:Nat→Nat→St→Hp→Prop} {m0:Nat} (w0:W 0 m0 (jJ caps σ) H3) (turn:∀i m τ H2,W i m τ H2→
   (J.stop i H2∧Q (.ref l) H2)∨(J.go i H2∧∃N:St→Hp→Prop,(∀τ' H',N τ' H'→∃m',m' < m∧W (i+1) m' τ' H')∧∀x H',J.yld i H2 x H'→g x τ H' fun τ2 H3=>
    tc τ2 H3 fun b H4=>if b=true then te τ2 H4 fun y H5=>∃xs,H5 l=some (.lst xs)∧xs.length < sizeLine∧N τ2 (upd H5 l (.lst (xs++[y]))) else N τ2 H4))
  (hRR:∀(l C:Addr) (H':Hp) (s':Shared),H' C=none→C≠X.env.locals→X.s₀.heap.objs.size≤C→(∀x c,X.env.cells.lookup x=some c→c≠C)→(∀p∈X.pn++pins,p.1≠C)→(∃m,s'.heap.Ns C m)→Inv X pins σ H' s'→
   (∀h'':Heap,(∀b u,b≠C→s'.heap.get? b=some u→h''.get? b=some u)→Inv X pins σ H' {s' with heap:=h''})→Q (.ref l) H'→RR (.ref l) C (.ok .next) s'):
  codeAny (model X.prog X.w) X.A (.compStart (.ListComp elt [⟨tg,iter,ifs,0⟩] scope pos) 0 (.ref it) (.ref l) (compEnvC scope (dG X.env scope.names []) s3.heap.objs.size X.env))
   (RR (.ref l) s3.heap.objs.size) {s3 with heap:=h₁,toks:=t₁}:=by
 have J0:Inv (blk X N' scope s3.heap.objs.size s3 H3 fp pins) [] (jJ caps σ) H3 {s3 with heap:=h₁,toks:=t₁}:=Inv.block S I3 hc hf3 hlt3 hns₁ keep3
 have fpB:∀{H':Hp},(∀b∈fp,H' b=none)→∀b∈fp,dg (blk X N' scope s3.heap.objs.size s3 H3 fp pins) [] H' b:=fun {H'} hn b hb=>by
  obtain ⟨f0,f1,f2,f3,f4,f5⟩:=hf3 b hb
  refine ⟨hn b hb,Nat.ne_of_lt (hlt3 b hb),fun z=>?_,.inl hb,fun x c e=>f4 x c (S.look I3.ok e),fun p hp=>?_⟩
  ·rcases List.mem_cons.mp (I3.iA b z) with q | q
   ·exact f1 q
   ·exact f2 q
  ·rcases List.mem_append.mp hp with q | q
   ·exact f5 p q
   ·cases q
 have fin:∀{τ:St} {H':Hp} {s':Shared},Inv (blk X N' scope s3.heap.objs.size s3 H3 fp pins) [] τ H' s'→Q (.ref l) H'→RR (.ref l) s3.heap.objs.size (.ok .next) s':=fun {τ H' s'} J q=>by
  refine hRR _ _ H' s' J.free ?_ ?_ ?_ ?_ ?_ ?_ ?_ q
  ·exact (Nat.ne_of_lt I3.lt).symm
  ·exact I3.sz
  ·intro x c e z
   obtain ⟨v,o,ho,_⟩:=I3.cell x c e
   exact Nat.ne_of_lt (Heap.lt_size ho) z
  ·intro p hp z
   obtain ⟨e,_⟩:=I3.pin p hp
   exact Nat.ne_of_lt (Heap.lt_size e) z
  ·obtain ⟨m,hm,_⟩:=J.loc
   exact ⟨m,hm⟩
  ·have:=Inv.oB S I3 hf3 J (h'':=s'.heap) fun b u _ e=>e
   exact this
  ·exact fun h'' hs=>Inv.oB S I3 hf3 J hs
 have loop:codeAny (model X.prog X.w) X.A (.compLoop (.ListComp elt [⟨tg,iter,ifs,0⟩] scope pos) 0 (.ref it) (.ref l) (compEnvC scope (dG X.env scope.names []) s3.heap.objs.size X.env))
   (RR (.ref l) s3.heap.objs.size) {s3 with heap:=h₁,toks:=t₁}:=by
  refine codeAny_loop rfl (fun n s'=>∃i τ H',Inv (blk X N' scope s3.heap.objs.size s3 H3 fp pins) [] τ H' s'∧tn i s'.heap∧(∀b∈fp,H' b=none)∧W i n τ H') ?_ m0 ⟨0,_,_,J0,st3,fun b hb=>(hf3 b hb).1,w0⟩
  rintro n s4 ⟨i,τ,H4,J4,st4,fr4,w4⟩
  show wpAny _ X.A ((compTurn (.ListComp elt [⟨tg,iter,ifs,0⟩] scope pos) 0 (.ref it) (.ref l) (compEnvC scope (dG X.env scope.names []) s3.heap.objs.size X.env)).onRaise (fun x=>do noteFrame x (compEnvC scope (dG X.env scope.names []) s3.heap.objs.size X.env);theTreesLotGoes x)) _ _ s4
  refine wpAny_noted ?_
  rw [compTurn_list]
  rcases turn i n τ H4 w4 with ⟨stop,qn⟩ | ⟨go,N,hN,step⟩
  ·refine wpAny_bind (wpAny_standAt (wpAny_bind (wpAny_mono (T.done (blk X N' scope s3.heap.objs.size s3 H3 fp pins) rfl rfl rfl rfl i [] s4 τ H4 _ J4 (fpB fr4) st4 stop) (fun r s5 h5=>?_) fun _ _ e=>e)))
   obtain ⟨hr,J5⟩:=h5
   subst hr
   exact wpAny_pure (fin J5 qn)
  ·refine wpAny_bind (wpAny_standAt (wpAny_bind (wpAny_mono (T.item (blk X N' scope s3.heap.objs.size s3 H3 fp pins) rfl rfl rfl rfl i [] s4 τ H4 _ J4 (fpB fr4) st4 go) (fun r s5 h5=>?_) fun _ _ e=>e)))
   obtain ⟨u,hr,h5⟩:=h5
   subst hr
   refine wpAny_bind (wpAny_mono h5 (fun _ s6 h6=>?_) fun _ _ e=>e)
   obtain ⟨x,H6,J6,r6,y6,st6,fr6⟩:=h6
   have J6':=J6.pinned (fpB fr6) (T.obj _ _ st6)
   refine wpAny_bind (wpAny_mono (upE (hg _ _ _ _ _ _ s6 τ H6 x u _ J6' r6 (step x H6 y6))) (fun _ s7 h7=>?_) fun _ _ e=>e)
   obtain ⟨τ7,H7,J7,q7⟩:=h7
   have again:∀{τ8:St} {H8:Hp} {s8:Shared},Inv (blk X N' scope s3.heap.objs.size s3 H3 fp pins) ([]++iP fp s6.heap) τ8 H8 s8→N τ8 H8→
     ∃m,m < n∧∃i τ' H',Inv (blk X N' scope s3.heap.objs.size s3 H3 fp pins) [] τ' H' s8∧tn i s8.heap∧(∀b∈fp,H' b=none)∧W i m τ' H':=fun {τ8 H8 s8} J8 n8=>by
    obtain ⟨m',hm,w8⟩:=hN τ8 H8 n8
    refine ⟨m',hm,i+1,τ8,H8,J8.fS,T.keep _ _ _ st6 fun b hb o e=>(J8.pin (b,o) (List.mem_append_right _ (List.mem_append_right _ (eg hb e)))).1,fun b hb=>?_,w8⟩
    obtain ⟨o,e,d⟩:=T.obj _ _ st6 b hb
    exact (J8.pin (b,o) (List.mem_append_right _ (List.mem_append_right _ (eg hb e)))).2.1
   refine wpAny_bind (wpAny_mono (upE (hif _ _ _ _ _ _ s7 τ7 H7 _ J7 q7)) (fun ok s8 h8=>?_) fun _ _ e=>e)
   obtain ⟨H8,J8,q8⟩:=h8
   cases ok with
   | false=>exact wpAny_pure ⟨rfl,again J8 (by simpa using q8)⟩
   | true=>
    have q8':te τ7 H8 fun y H5=>∃xs,H5 l=some (.lst xs)∧xs.length < sizeLine∧N τ7 (upd H5 l (.lst (xs++[y]))):=by simpa using q8
    refine wpAny_bind (wpAny_bind (wpAny_mono (upE (he _ _ _ _ _ _ s8 τ7 H8 _ J8 q8')) (fun y s9 h9=>?_) fun _ _ e=>e))
    obtain ⟨yv,H9,J9,r9,xs,hx,hz,n9⟩:=h9
    refine wpAny_bind (wpAny_mono (upE (j6 (X:=blk X N' scope s3.heap.objs.size s3 H3 fp pins) _ s9 τ7 H9 (.ref l) [yv] (.ref l) [y] (fun _ H'=>N τ7 H') J9 rfl (.cons r9 .nil) ⟨_,xs,yv,rfl,rfl,hx,hz,n9⟩)) (fun _ s10 h10=>?_) fun _ _ e=>e)
    obtain ⟨_,H10,J10,_,n10⟩:=h10
    exact wpAny_pure (wpAny_pure ⟨rfl,again J10 n10⟩)
 exact codeAny_compStart_list loop (T.self X.A 0 _ _ _ st3 loop)
theorem jf (S:CompScope X N' caps scope) (hc:X.calm=true) (hg:∀C s₃ H₃ fp pl,PG (blk X N' scope C s₃ H₃ fp pl) tg g) (hif:∀C s₃ H₃ fp pl,PIf (blk X N' scope C s₃ H₃ fp pl) ifs tc)
  (he:∀C s₃ H₃ fp pl,PE (blk X N' scope C s₃ H₃ fp pl) elt te) {pins:List (Addr×Obj)} {σ:St} {H:Hp} {s:Shared} {it:Addr} {fp:List Addr} {tn:Nat→Heap→Prop} {J:It}
  (I:Inv X pins σ H s) (T:Turn X.prog X.w X.K tg J fp it tn) (st:tn 0 s.heap) (hf:∀b∈fp,dg X pins H b) {Q:VK} {RR:Value→Addr→Result→Shared→Prop} {E:Value→Shared→Prop}
  (h:∀l,H l=none→∃W:Nat→Nat→St→Hp→Prop,(∃m,W 0 m (jJ caps σ) (upd H l (.lst [])))∧∀i m τ H2,W i m τ H2→
   (J.stop i H2∧Q (.ref l) H2)∨(J.go i H2∧∃N:St→Hp→Prop,(∀τ' H',N τ' H'→∃m',m' < m∧W (i+1) m' τ' H')∧∀x H',J.yld i H2 x H'→g x τ H' fun τ2 H3=>
    tc τ2 H3 fun b H4=>if b=true then te τ2 H4 fun y H5=>∃xs,H5 l=some (.lst xs)∧xs.length < sizeLine∧N τ2 (upd H5 l (.lst (xs++[y]))) else N τ2 H4))
  (hRR:∀(l C:Addr) (H':Hp) (s':Shared),H' C=none→C≠X.env.locals→X.s₀.heap.objs.size≤C→(∀x c,X.env.cells.lookup x=some c→c≠C)→(∀p∈X.pn++pins,p.1≠C)→(∃m,s'.heap.Ns C m)→Inv X pins σ H' s'→
   (∀h'':Heap,(∀b u,b≠C→s'.heap.get? b=some u→h''.get? b=some u)→Inv X pins σ H' {s' with heap:=h''})→Q (.ref l) H'→RR (.ref l) C (.ok .next) s'):
  wpAny (model X.prog X.w) X.A (newList []) (fun acc s₃=>wpAny (model X.prog X.w) X.A (newFunctionEnv scope X.env.globals (dG X.env scope.names []) [] X.env.qual none .none (some X.env)) (fun cenv s₄=>
   codeAny (model X.prog X.w) X.A (.compStart (.ListComp elt [⟨tg,iter,ifs,0⟩] scope pos) 0 (.ref it) acc {cenv with scope:=relabel scope X.env}) (RR acc cenv.locals) s₄) E s₃) E s:=by
 obtain ⟨W,⟨m0,w0⟩,turn⟩:=h s.heap.objs.size I.fresh
 refine wpAny_newObj_type (wpAny_newFunctionEnv S.nocell (by intro y hy;simp at hy) (fun h₁ hns₁ hsb₁=>?_) S.kind)
 have I3:Inv X pins σ (upd H s.heap.objs.size (.lst [])) {s with heap:=s.heap.push {cls:=.type "list",data:=.seq ([]:List Value).toArray}}:=I.vU (t':=s.toks) (its:=[]) (ys:=[]) .nil (Nat.zero_le _)
 have hltf:∀b∈fp,b < s.heap.objs.size:=fun b hb=>by
  obtain ⟨o,e,_⟩:=T.obj 0 _ st b hb
  exact Heap.lt_size e
 have hf3:∀b∈fp,dg X pins (upd H s.heap.objs.size (.lst [])) b:=fun b hb=>⟨by rw [av (Nat.ne_of_lt (hltf b hb))];exact (hf b hb).1,(hf b hb).2⟩
 have keep3:∀b o,(s.heap.push {cls:=.type "list",data:=.seq ([]:List Value).toArray}).get? b=some o→h₁.get? b=some o:=fun b o e=>hsb₁.extBut b o (Nat.ne_of_lt (Heap.lt_size e)) (Heap.get?_push_of_some _ e)
 have st3:tn 0 h₁:=T.keep 0 _ _ st fun b hb o e=>keep3 b o (Heap.get?_push_of_some _ e)
 have hlt3:∀b∈fp,b < (s.heap.push {cls:=.type "list",data:=.seq ([]:List Value).toArray}).objs.size:=fun b hb=>by
  have:=hltf b hb
  rw [Heap.size_push]
  exact Nat.lt_succ_of_lt this
 exact pS (s3:={s with heap:=s.heap.push {cls:=.type "list",data:=.seq ([]:List Value).toArray}}) S hc hg hif he I3 T st3 hf3 hlt3 hns₁ keep3 w0 turn hRR
theorem qC (S:CompScope X N' caps scope) (hc:X.calm=true) (hi:PI X tg iter wi) (hg:∀C s₃ H₃ fp pl,PG (blk X N' scope C s₃ H₃ fp pl) tg g) (hif:∀C s₃ H₃ fp pl,PIf (blk X N' scope C s₃ H₃ fp pl) ifs tc)
  (he:∀C s₃ H₃ fp pl,PE (blk X N' scope C s₃ H₃ fp pl) elt te) (hs:∀x,foldedSetIterable iter X.env x=pure x:=by intro _;rfl):PE X (.ListComp elt [⟨tg,iter,ifs,0⟩] scope pos) (p7 caps wi g tc te):=by
 intro pins s σ H Q I h
 rw [eval_ListComp]
 refine wpAny_comprehension_free (use:=none) rfl hs (jg (S.has I.ok)) S.kind S.names (thn (hi pins s σ H _ I h) fun v s1 h1=>thn h1 fun itv s2 h2=>?_)
 obtain ⟨it,fp,tn,J,H2,e,I2,T,st2,f2,hQ⟩:=h2
 subst e
 refine jf (RR:=fun acc C=>compPost (model X.prog X.w) X.A X.xe none (EP X pins σ Q) acc C) S hc hg hif he I2 T st2 f2 hQ ?_
 intro l C H' s' _ _ _ _ _ hm _ hI q
 obtain ⟨m,hm⟩:=hm
 exact ⟨m,hm,fun h'' hs''=>⟨.ref l,H',hI h'' fun b u hb e=>hs''.extBut b u hb e,rfl,q⟩⟩
theorem qw {i:Nat} {y:Str} {py spos:Pos} (hN:X.N.Nodup) (hi':X.N[i]?=some y) (hy:X.env.scope.names.lookup y=some .local) (S:CompScope X N' caps scope) (hc:X.calm=true) (hi:PI X tg iter wi)
  (hg:∀C s₃ H₃ fp pl,PG (blk X N' scope C s₃ H₃ fp pl) tg g) (hif:∀C s₃ H₃ fp pl,PIf (blk X N' scope C s₃ H₃ fp pl) ifs tc)
  (he:∀C s₃ H₃ fp pl,PE (blk X N' scope C s₃ H₃ fp pl) elt te)
  (hsw:swapsWith (.ListComp elt [⟨tg,iter,ifs,0⟩] scope pos) (some (.Name y py)) spos.line X.env=pure true:=by rfl) (hs:∀x,foldedSetIterable iter X.env x=pure x:=by intro _;rfl):
  PS X (.Assign [.Name y py] (.ListComp elt [⟨tg,iter,ifs,0⟩] scope pos) spos) (rX (p7 caps wi g tc te) (mS i)):=by
 intro pins s σ H D I h
 rw [exec_Assign_Name_used _ _ _ _ hsw]
 refine wpAny_bind (wpAny_standAt (wpAny_bind ?_))
 show wpAny _ X.A (do let _←comprehension (.ListComp elt [⟨tg,iter,ifs,0⟩] scope pos) scope X.env _ (newList []) false (eval iter X.env) (some (assign (.Name y py) X.env))) _ _ s
 refine wpAny_bind (wpAny_mono (wpAny_comprehension_free (use:=some (assign (.Name y py) X.env)) (Q:=fun _ s'=>SP X pins D .next s') rfl hs (jg (S.has I.ok)) S.kind S.names
  (thn (hi pins s σ H _ I h) fun v s1 h1=>thn h1 fun itv s2 h2=>?_)) (fun _ s' hq=>wpAny_pure (wpAny_pure hq)) fun _ _ e=>e)
 obtain ⟨it,fp,tn,J,H2,e,I2,T,st2,f2,hQ⟩:=h2
 subst e
 refine jf (Q:=fun x H1=>mS i x σ H1 D.nx) (RR:=fun acc C=>compPost (model X.prog X.w) X.A X.xe (some (assign (.Name y py) X.env)) (fun _ s'=>SP X pins D .next s') acc C) S hc hg hif he I2 T st2 f2 hQ ?_
 intro l C H' s' hC hCL hC0 hCc hCp hm hI0 hI q
 obtain ⟨m,hm⟩:=hm
 show wpAny _ X.A (assign (.Name y py) X.env (.ref l)) _ _ s'
 refine wpAny_assign_Name (jW (v:=.ref l) hI0 hN hi' (.inl hy) rfl (fun s5 I5 hch=>?_) (.inr hy))
 obtain ⟨a,hsa,ha⟩:=hch
 have hCa:C≠a:=by
  rcases ha with z | z
  ·rw [z];exact hCL
  ·exact (hCc _ _ z).symm
 refine ⟨m,hm.sameBut hsa hCa,fun h'' hs''=>?_⟩
 have I6:=I5.turned (t':=s5.toks) (h':=h'') (it:=C) (fun b o hb e=>hs''.extBut b o hb e) hC hCL (.inr hC0) hCc hCp
 exact ⟨_,H',I6,q⟩
end
end L2
namespace L2
open PySem PySem.Spec PyProof.Rows
def x3 (_ j:Int):Prop:=0 < j∧j≤10^40
theorem log2_small {n:Nat} (h:n≤10^40):n.log2 < 9000:=by
 by_cases h0:n=0
 ·rw [h0];decide
 ·refine (Nat.log2_lt h0).mpr (Nat.lt_of_le_of_lt h ?_)
  exact Nat.lt_of_lt_of_le (show 10^40 < 2^200 by decide) (Nat.pow_le_pow_right (by decide) (by decide))
section
variable {X:Cx}
theorem qH:OpR X (binaryOp .FloorDiv) (rI x3 fun i j=>.int (i / j)):=opI fun i j _ _ _ _ _ hc q=>by
 have h1:(0:Int) < j:=hc.1
 have h2:j≤10^40:=hc.2
 exact floordiv_int (by omega) (by rw [Int.fdiv_eq_ediv_of_nonneg i (by omega)];exact q) (.inl (PyProof.noPylong_of_log2 (log2_small (by omega))))
mutual
inductive Rds (K:PySem.W.Frag) (H:Hp):V→PyData→Prop where
 | non:Rds K H .non .none
 | bl (b:Bool):Rds K H (.bl b) (.bool b)
 | int (i:Int):Rds K H (.int i) (.int i)
 | str (x:Str):Rds K H (.str x) (.str x)
 | tup {a:Addr} {xs:List V} {ds:List PyData}:SqT K H a xs→RdsL K H xs ds→Rds K H (.ref a) (.tuple ds)
 | lst {a:Addr} {xs:List V} {ds:List PyData}:SqL K H a xs→RdsL K H xs ds→Rds K H (.ref a) (.list ds)
inductive RdsL (K:PySem.W.Frag) (H:Hp):List V→List PyData→Prop where
 | nil:RdsL K H [] []
 | cons {x:V} {xs:List V} {d:PyData} {ds:List PyData}:Rds K H x d→RdsL K H xs ds→RdsL K H (x::xs) (d::ds)
end
variable {pins:List (Addr×Obj)} {σ:St} {H:Hp} {s:Shared}
mutual
theorem Rds.reads (I:Inv X pins σ H s):∀{x:V} {u:Value} {d:PyData},Rds X.K H x d→RelV x u→∃as,Reads s.heap u d as
 | _,_,_,.non,r=>by cases (show _=Value.none from r);exact ⟨_,.none⟩
 | _,_,_,.bl b,r=>by cases (show _=Value.bool b from r);exact ⟨_,.bool b⟩
 | _,_,_,.int i,r=>by obtain ⟨t,e⟩:=(show ∃t,_=Value.int i t from r);cases e;exact ⟨_,.int i t⟩
 | _,_,_,.str x,r=>by obtain ⟨t,e⟩:=(show ∃t,_=Value.str x t from r);cases e;exact ⟨_,.str x t⟩
 | _,_,_,.tup (a:=a) hq hl,r=>by
  cases (show _=Value.ref a from r)
  obtain ⟨its,rv,⟨o,h1,h2,n,h3⟩,_⟩:=I.tuple hq
  obtain ⟨as,q⟩:=RdsL.reads I hl rv
  exact ⟨_,.tuple h1 h2 h3 (by simpa using q)⟩
 | _,_,_,.lst (a:=a) hq hl,r=>by
  cases (show _=Value.ref a from r)
  obtain ⟨its,rv,pl,_⟩:=I.list hq
  obtain ⟨o,h1,h2,n,h3⟩:=pl.isList
  obtain ⟨as,q⟩:=RdsL.reads I hl rv
  exact ⟨_,.list h1 h2 h3 (by simpa using q)⟩
theorem RdsL.reads (I:Inv X pins σ H s):∀{xs:List V} {us:List Value} {ds:List PyData},RdsL X.K H xs ds→Vals xs us→∃as,ReadsAll s.heap us ds as
 | _,_,_,.nil,.nil=>⟨_,.nil⟩
 | _,_,_,.cons h t,.cons r q=>by
  obtain ⟨as,p⟩:=Rds.reads I h r
  obtain ⟨bs,p'⟩:=RdsL.reads I t q
  exact ⟨_,.cons p p'⟩
end
def yA:V→Option Int→Option Int→Hp→VK→Prop:=fun x lo hi H Q=>∃z,x=.str z∧z.length≤sizeLine∧Q (.str (Txt.slice z lo hi)) H
theorem uH:SlR X yA:=by
 intro pins s σ H x v vl vu lo hi sl Q I rx hs pl pu h
 obtain ⟨z,rfl,hz,q⟩:=h
 obtain ⟨t,rfl⟩:=(show ∃t,v=Value.str z t from rx)
 refine ⟨"str",_,F.slot_str_getitem.lookup,typeIs_str _ _ _,?_⟩
 obtain ⟨o,h1,h2,h3⟩:=hs
 have fin:(Txt.slice z lo hi).length≤sizeLine∧∀t' k,EP X pins σ Q (.str (Txt.slice z lo hi) t') {s with toks:=k}:=⟨Nat.le_trans (Txt.slice_le z _ _) hz,fun t' k=>⟨.str _,H,I.tok k,⟨t',rfl⟩,q⟩⟩
 cases pl with
 | none=>
  cases pu with
  | none=>exact wpAny_getItem_str_slice (l:=none) (u:=none) (st:=none) ⟨o,h1,h2,h3⟩ rfl (post_val_or_str fin)
  | int j uj=>exact wpAny_getItem_str_slice (l:=none) (u:=some (j,uj)) (st:=none) ⟨o,h1,h2,h3⟩ rfl (post_val_or_str fin)
 | int i ui=>
  cases pu with
  | none=>exact wpAny_getItem_str_slice (l:=some (i,ui)) (u:=none) (st:=none) ⟨o,h1,h2,h3⟩ rfl (post_val_or_str fin)
  | int j uj=>exact wpAny_getItem_str_slice (l:=some (i,ui)) (u:=some (j,uj)) (st:=none) ⟨o,h1,h2,h3⟩ rfl (post_val_or_str fin)
theorem rC:cW X (.builtin "isinstance") (fun xs H Q=>∃x n t b,xs=[x,.ty n]∧TyOf X.K H x t∧PySem.W.kitOne X.K t (.type n)=some b∧Q (.bl b) H):=by
 intro pins s σ H xs us Q I r h
 obtain ⟨x,n,t,b,rfl,ty,e,q⟩:=h
 obtain ⟨u,w',rfl,ru,rw'⟩:=vals2 r
 cases (show w'=Value.type n from rw')
 exact pF I ru ty e fun tk=>⟨.bl b,H,I.tok tk,rfl,q⟩
end
end L2
namespace L2
open PySem PySem.Spec PyProof.Rows
theorem lD:typeLookup (.type "list") "keys"=pure none:=by rw [typeLookup_type,builtinLookup_eq_fast];kernel_rfl
theorem vP {prog:Program} {w:World} {A:Around} {E:Value→Shared→Prop} {s:Shared} {a:Addr} {xs:Array Value} {k:Nat} {Q:Option Value→Shared→Prop}
  (hx:s.heap.get? a=some {cls:=.type "list",data:=.seq xs k}) (hA:A.handled=none)
  (h:∀h' tk,(∀b o,s.heap.get? b=some o→h'.get? b=some o)→Q none {s with heap:=h',toks:=tk}):
  wpAny (model prog w) A (getAttr? (.ref a) "keys") Q E s:=by
 obtain ⟨hp,g,d,tk,os⟩:=s
 have hT:∀tk',(⟨hp,g,d,tk',os⟩:Shared).TypeIs (.ref a) "list":=fun _=>⟨_,hx,rfl⟩
 have f1:=sub_AttributeError
 have f3:=F.slot_list_getattribute.lookup
 have f4:=F.slot_list_getattribute.bind (.ref a)
 have f5:=am_list_getattr_none
 unfold getAttr? getAttrBy? getAttrBy
 repeat (any_goals (first | assumption | exact hT _ | ((with_reducible show wpAny _ _ (call (Value.builtin "list.__getattribute__") _ _) _ _ _);refine call_meets F.slot_list_getattribute (hT _) am_entry_list_getattribute (F.args_list_getattribute_2 _ _) (meets_getattribute_miss_list a xs k #[] "keys" _ lD (by decide+kernel) (by decide)) ⟨hx,hA,fun h' tk' e hx'=>?_⟩) | wp_step))
 obtain ⟨t',u',he⟩:=hx'.there
 have hE:∀tk',(⟨h',g,d,tk',os⟩:Shared).TypeIs (.ref e) "AttributeError":=fun _=>⟨_,he,rfl⟩
 show wpAny _ _ (getattributeRaised _ _ _ _ _ _ _) _ _ _
 unfold getattributeRaised
 repeat (any_goals (first | assumption | exact hE _ | wp_step))
 exact h _ _ hx'.keeps
end L2
namespace L2
open PySem PySem.Spec PyProof.Rows
theorem br:entryFor table "dict.update.loop"=some Builtin.«dict.update.loop»:=entryFor_of_tree (by kernel_rfl)
theorem aG:plainId "dict.update.loop"=true:=by decide+kernel
abbrev gu (K:PySem.W.Frag) (H:Hp):List V→List (Key×V)→Prop:=Paired fun y kv=>∃a,y=.ref a∧SqT K H a [kV kv.1,kv.2]
theorem Paired.at {α β:Type} {F:α→β→Prop}:∀{l₁:List α} {l₂:List β} {i:Nat} {x:α},Paired F l₁ l₂→l₁[i]?=some x→∃y,l₂[i]?=some y∧F x y
 | _,_,_,_,.nil,e=>by simp at e
 | _,_,0,_,.cons r _,e=>by simp at e;subst e;exact ⟨_,rfl,r⟩
 | _,_,i+1,x,.cons _ t,e=>by
  obtain ⟨y,h1,h2⟩:=Paired.at (i:=i) t (by simpa using e)
  exact ⟨y,by simpa using h1,h2⟩
section
variable {X:Cx}
theorem eW (kvs more:List (Key×V)) (p:Key×V):aA kvs (more++[p])=putK (aA kvs more) p.1 p.2:=by
 unfold aA
 rw [List.foldl_append]
 rfl
theorem pP {A:Around} {pins:List (Addr×Obj)} {σ:St} {H:Hp} {p d it:Addr} {ys:List V} {kvs:List (Key×V)} {R:Result→Shared→Prop} (hA:A.handled=none) (hp:H p=some (.lst ys)) (hr:gu X.K H ys kvs) (hl:ys.length≤1000000) (hd:H d=none)
  (hit:it≠X.env.locals∧(it∈X.ex∨X.s₀.heap.objs.size≤it)∧(∀x c,X.env.cells.lookup x=some c→c≠it)∧∀q∈X.pn++pins,q.1≠it) (hin:H it=none) (hid:it≠d)
  (h:∀s',Inv X pins σ (upd H d (.dK (aA [] kvs))) s'→R (.ok (.ret .none)) s'):∀(n i:Nat) (s:Shared),kvs.length-i=n→i≤kvs.length→s.heap.IsListIter it p i→Inv X pins σ (upd H d (.dK (aA [] (kvs.take i)))) s→
   codeAny (model X.prog X.w) A (.builtin "dict.update.loop" ⟨[.ref d,.ref it,rawInt i,.none],[]⟩) R s:=by
 have hlen:=Paired.length hr
 have npd:p≠d:=az hp hd
 have hsz:sizeLine≥1000001:=by decide
 intro n
 induction n with
 | zero=>
  intro i s hn hi st I
  have ei:i=kvs.length:=by omega
  refine codeAny_builtin br ?_
  rw [Around.under_plainId aG _]
  have hq:SqL X.K (upd H d (.dK (aA [] (kvs.take i)))) p ys:=SqL.of (by rw [av npd];exact hp)
  obtain ⟨its,rv,pl,hz⟩:=I.list hq
  have hl':=rv.length
  show wpAny _ _ (pyNext (.ref it) >>=_) _ _ s
  refine wpAny_bind (wpAny_pyNext_list_end hA st pl.isList (by simp;omega) fun h' eb=>?_)
  show wpAny _ _ (Builtin.Dict.addKeywords d [] >>=fun _=>ret .none) _ _ _
  have I':=I.turned (t':=s.toks) (h':=h') (it:=it) (fun b o hb e=>eb b o hb e) (by rw [av hid];exact hin) hit.1 hit.2.1 hit.2.2.1 hit.2.2.2
  refine wpAny_bind (wpAny_pure (wpAny_pure ?_))
  rw [ei,List.take_length] at I'
  exact h _ I'
 | succ n ih=>
  intro i s hn hi st I
  have hi':i < kvs.length:=by omega
  refine codeAny_builtin br ?_
  rw [Around.under_plainId aG _]
  have hq:SqL X.K (upd H d (.dK (aA [] (kvs.take i)))) p ys:=SqL.of (by rw [av npd];exact hp)
  obtain ⟨its,rv,pl,hz⟩:=I.list hq
  have hyi:ys[i]?=some (ys[i]'(by omega)):=List.getElem?_eq_getElem _
  generalize ys[i]'(by omega)=y at hyi
  obtain ⟨u,hu,ru⟩:=rv.get hyi
  obtain ⟨kv,hk,a,ea,hta⟩:=Paired.at hr hyi
  subst ea
  cases (show u=Value.ref a from ru)
  show wpAny _ _ (pyNext (.ref it) >>=_) _ _ s
  refine wpAny_bind (wpAny_pyNext_list_item st pl.isList (x:=.ref a) (by simpa using hu) fun h' st' sb=>?_)
  have I':=I.turned (t':=s.toks) (h':=h') (it:=it) (fun b o hb e=>(sb.2 b hb).trans e) (by rw [av hid];exact hin) hit.1 hit.2.1 hit.2.2.1 hit.2.2.2
  have hta':SqT X.K (upd H d (.dK (aA [] (kvs.take i)))) a [kV kv.1,kv.2]:=by
   rcases hta with hta | hta
   ·rcases hta with hta | ⟨o,hta⟩
    ·exact .inl (.inl (by rw [av (az hta hd)];exact hta))
    ·exact .inl (.inr ⟨o,by rw [av (az hta hd)];exact hta⟩)
   ·exact .inr hta
  obtain ⟨its2,rv2,pt,hz2⟩:=I'.tuple hta'
  obtain ⟨ku,vu,rfl,rk,rw2⟩:=vals2 rv2
  obtain ⟨ot,ht1,ht2,nt,ht3⟩:=id pt
  dsimp only
  refine wpAny_bind (wpAny_holding ?_)
  refine wpAny_bind (wpAny_tryCatch ?_)
  unfold Builtin.Dict.pairItems
  refine wpAny_bind (wpAny_typeOf pt.typeIs ?_)
  rw [if_pos (by decide)]
  refine wpAny_bind (wpAny_seqItems ht1 ht3 (wpAny_pure ?_))
  show wpAny _ _ (holding [ku,vu] (dictSet d ku vu)) _ _ _
  refine wpAny_holding ?_
  have ed:upd H d (.dK (aA [] (kvs.take i))) d=some (.dK (aA [] (kvs.take i))):=aN
  obtain ⟨z,hdm,vs,rel,dd⟩:=jc I'.hok ed
  have hz3:vs.length≤sizeLine:=by rw [←rel.length];exact z
  unfold dictSet
  refine wpAny_holding (wpAny_bind ((aW X.prog X.w).pyHash (eD rk) ?_))
  refine wpAny_dictSetHashed_pairs (hsz:=hz3) (eD rk) dd fun h2 dd' hs=>?_
  have he:∃q,h2.get? d=some q:=let ⟨q,_,_,hq,_⟩:=dd';⟨q,hq⟩
  have e2:putK (aA [] (kvs.take i)) kv.1 kv.2=aA [] (kvs.take (i+1)):=by
   rw [List.take_succ,hk,←eW]
   rfl
  have hl2:(putK (aA [] (kvs.take i)) kv.1 kv.2).length≤sizeLine:=by
   rw [e2]
   have:=cf (kvs.take (i+1)) []
   rw [List.length_take] at this
   simp only [List.length_nil] at this
   omega
  have I2:=ft (t':=s.toks+1) I' (by rw [ed];exact True.intro) hs he (gP (H':=upd (upd H d (.dK (aA [] (kvs.take i)))) d (.dK (putK (aA [] (kvs.take i)) kv.1 kv.2))) hl2 hdm (rel.put kv.1 rw2) dd')
  rw [kE,e2] at I2
  have hc:((i:Int)+1)=((i+1:Nat):Int):=by push_cast;rfl
  rw [hc]
  refine wpAny_pure ⟨plainId_quiet aG _,ih (i+1) _ (by omega) (by omega) ?_ I2⟩
  obtain ⟨oi,e1,e2,e3⟩:=st'
  exact ⟨oi,hs.extBut _ _ hid e1,e2,e3⟩
theorem jl (hc:X.calm=true):cW X (.type "dict") (fun xs H Q=>∃p ys kvs,xs=[.ref p]∧H p=some (.lst ys)∧gu X.K H ys kvs∧ys.length≤1000000∧∀q,H q=none→Q (.ref q) (upd H q (.dK (aA [] kvs)))):=by
 intro pins s σ H xs us Q I r h
 obtain ⟨p,ys,kvs,rfl,hp,hr,hl,q⟩:=h
 obtain ⟨u,rfl,ru⟩:=vals1 r
 cases (show u=Value.ref p from ru)
 refine callType_codes (Q₁:=fun obj s₁=>obj=.ref s.heap.objs.size∧s₁={s with heap:=s.heap.push {cls:=.type "dict",data:=.dict #[]}}) F.kt_called_dict (F.kt_typeCall_dict_1 _) F.entry_dict_init (kt_code_dict_new _ ⟨rfl,rfl⟩) ?_
 rintro obj s₁ ⟨rfl,rfl⟩
 have hd:H s.heap.objs.size=none:=I.fresh
 have hnew:(s.heap.push {cls:=.type "dict",data:=.dict #[]}).DictOf (aW X.prog X.w) s.heap.objs.size []:=Heap.DictOf.new s.heap
 have I1:Inv X pins σ (upd H s.heap.objs.size (.dK [])) {s with heap:=s.heap.push {cls:=.type "dict",data:=.dict #[]}}:=I.laid (t':=s.toks) (fun _ _ q=>Heap.get?_push_of_some _ q) (Nat.le_refl _) (fe s.heap I.big)
 have npd:p≠s.heap.objs.size:=az hp hd
 refine ⟨hnew.typeIs,F.args_dict_init_2 _ _,?_⟩
 obtain ⟨hz,its,n,rv,hx⟩:=I1.hok p _ (show upd H s.heap.objs.size (.dK []) p=some (.lst ys) by rw [av npd];exact hp)
 have hA:X.A.handled=none:=I.ok.hd hc
 unfold Builtin.«dict.__init__»
 refine wpAny_bind ?_
 unfold Builtin.Dict.selfAndRest
 refine wpAny_bind (wpAny_notOrdered_dict hnew.typeIs ?_)
 show wpAny _ _ (pure (s.heap.objs.size,[Value.ref p])) _ _ _
 refine wpAny_pure ?_
 show wpAny _ _ (Builtin.Dict.updateFrom "dict.__init__" s.heap.objs.size (.ref p) [] .none) _ _ _
 unfold Builtin.Dict.updateFrom
 refine wpAny_bind (wpAny_typeOf (T:="list") ⟨_,hx,rfl⟩ ?_)
 rw [if_pos (by decide)]
 refine wpAny_bind (vP hx (by exact hA) fun h2 tk keep=>?_)
 have I2:=I1.kept (t':=tk) keep
 have hx2:=keep _ _ hx
 have hil:h2.IsList p its.toArray:=⟨_,hx2,rfl,_,rfl⟩
 simp only [Option.isNone_none,if_true]
 refine wpAny_bind (wpAny_rule (wpAny_bind (wpAny_pyIter_list hil ?_)))
 have I3:Inv X pins σ (upd H s.heap.objs.size (.dK [])) {s with heap:=h2.push {cls:=.type "list_iterator",data:=.fields #[.ref p,.int 0 0]},toks:=tk}:=I2.kept (t':=tk) fun b o e=>Heap.get?_push_of_some _ e
 have hfp:=I2.lG (b:=h2.objs.size) (H':=upd H s.heap.objs.size (.dK [])) (Nat.le_refl _) (I2.hok.fresh (Nat.le_refl _))
 obtain ⟨f0,f1,f2,f3,f4,f5⟩:=hfp
 have hne:h2.objs.size≠s.heap.objs.size:=by
  intro z
  rw [z,aN] at f0
  cases f0
 have hin:H h2.objs.size=none:=by rw [av hne] at f0;exact f0
 refine wpAny_pure ⟨plainId_quiet aG _,?_⟩
 exact pP (X:=X) (σ:=σ) (H:=H) (kvs:=kvs) (by exact hA) hp hr hl hd ⟨f1,f3,f4,f5⟩ hin hne (fun s' I'=>⟨rfl,⟨.ref _,_,I',rfl,q _ hd⟩⟩) kvs.length 0 _ (by omega) (Nat.zero_le _) ⟨_,Heap.get?_push_size _ rfl,rfl,rfl⟩ I3
end
end L2
namespace L2
open PySem PySem.Spec PyProof.Rows
section
variable {g:TG} {tc:TT} {te:TE} {l:Addr} {Q:VK} {τ0:St} {H0:Hp}
end
end L2
namespace L2
open PySem PySem.Spec PyProof.Rows
def mN (out:List (Str×NameKind)) (N N':List Str) (caps:List (Option Nat)) (scope:Scope):Bool:=
 decide (scope.kind=.function)&&scope.names.all (fun y=>decide (y.2≠.cell))&&scope.names.all (fun y=>!decide (y.2=.local)||decide (scope.names.lookup y.1=some .local))&&
 scope.names.all (fun y=>!decide (y.2=.free)||decide (out.lookup y.1=some .cell)||decide (out.lookup y.1=some .free))&&decide (caps.length=N'.length)&&
 (List.range caps.length).all (fun j=>match caps[j]?,N'[j]? with
  | some (some i),some x=>decide (N[i]?=some x)&&decide (scope.names.lookup x=some .free)
  | _,_=>true)&&decide N'.Nodup
theorem bG {X:Cx} {N':List Str} {caps:List (Option Nat)} {scope:Scope} (h:mN X.env.scope.names X.N N' caps scope=true):CompScope X N' caps scope:=by
 unfold mN at h
 simp only [Bool.and_eq_true,decide_eq_true_eq,List.all_eq_true,Bool.or_eq_true,Bool.not_eq_true',decide_eq_false_iff_not] at h
 obtain ⟨⟨⟨⟨⟨⟨h1,h2⟩,h3⟩,h4⟩,h5⟩,h6⟩,h7⟩:=h
 refine ⟨h1,h2,fun y hy e=>?_,fun y hy e=>?_,h5,fun j i x hj hx=>?_,h7⟩
 ·rcases h3 y hy with z | z
  ·exact absurd e z
  ·exact z
 ·rcases h4 y hy with (z | z) | z
  ·exact absurd e z
  ·exact .inl z
  ·exact .inr z
 ·have hlt:j < caps.length:=(List.getElem?_eq_some_iff.mp hj).1
  have:=h6 j (List.mem_range.mpr hlt)
  rw [hj,hx] at this
  simp only [Bool.and_eq_true,decide_eq_true_eq] at this
  exact this
end L2
namespace L2
end L2
namespace L2
open PySem PySem.Spec PyProof.Rows
theorem gA {x:Str}:PyData.strOk x=true↔∀c∈x.cps,c < 0x110000:=by
 unfold PyData.strOk
 rw [Array.all_eq_true_iff_forall_mem]
 simp
theorem o7 {a b:Str} (ha:PyData.strOk a=true) (hb:PyData.strOk b=true):PyData.strOk (a++b)=true:=by
 rw [gA] at*
 intro c hc
 have hc':c∈a.cps++b.cps:=hc
 rcases Array.mem_append.mp hc' with z | z
 ·exact ha c z
 ·exact hb c z
theorem mn {x:Str} (l u:Option Int) (h:PyData.strOk x=true):PyData.strOk (Txt.slice x l u)=true:=by
 unfold Txt.slice
 split
 ·exact h
 ·rw [gA] at*
  intro c hc
  have hc':c∈(List.filterMap (x.cps[·]?) (Builtin.Str.strSliceIndices l u 1 x.length)).toArray:=hc
  rw [List.mem_toArray] at hc'
  obtain ⟨i,_,e⟩:=List.mem_filterMap.mp hc'
  exact h c (Array.mem_of_getElem? e)
theorem o6 {z:Str} {c:Nat} {i:Int} (h:PyData.strOk z=true) (hc:atI z.cps.toList i=some c):PyData.strOk (⟨#[c]⟩:Str)=true:=by
 rw [gA] at*
 intro d hd
 have e:d=c:=by simpa using hd
 subst e
 obtain ⟨j,_,hj,_⟩:=iu hc
 exact h d (by have:=List.mem_of_getElem? hj;simpa using this)
end L2
namespace L2
open PySem PySem.Spec PyProof.Rows
section
variable {X:Cx}
end
section
variable {X:Cx}
end
end L2
namespace Sm
open PySem L2
inductive D where
 | non | bl (b:Bool) | int (i:Int) | str (x:Str) | ty (n:String)
 | tup (xs:List D) | lv (xs:List D) | ro (xs:List D) | dv (kvs:List (Key×D)) | ob (n:Nat)
inductive MO where
 | lst (xs:List D) | dct (kvs:List (Key×D))
abbrev MH:=List MO
abbrev DS:=List (Option D)
abbrev noH:Hp:=fun _=>none
structure Ad where
 ob:List Addr
 rs:List Addr
def Ad.has (ρ:Ad) (a:Addr):Prop:=a∈ρ.ob∨a∈ρ.rs
def TupAt (K:PySem.W.Frag) (ρ:Ad) (H:Hp) (a:Addr) (vs:List V):Prop:=(Rd H a (.tup vs)∧¬ρ.has a)∨SqT K noH a vs
def wH (K:PySem.W.Frag) (ρ:Ad) (H:Hp) (a:Addr) (vs:List V):Prop:=(Rd H a (.lst vs)∧¬ρ.has a)∨SqL K noH a vs
mutual
inductive Rep (K:PySem.W.Frag) (ρ:Ad) (H:Hp):V→D→Prop where
 | non:Rep K ρ H .non .non
 | bl (b:Bool):Rep K ρ H (.bl b) (.bl b)
 | int (i:Int):Rep K ρ H (.int i) (.int i)
 | str {x:Str} (h:PyData.strOk x=true):Rep K ρ H (.str x) (.str x)
 | ty (n:String):Rep K ρ H (.ty n) (.ty n)
 | tup {a:Addr} {vs:List V} {ds:List D}:TupAt K ρ H a vs→RepL K ρ H vs ds→Rep K ρ H (.ref a) (.tup ds)
 | lv {a:Addr} {vs:List V} {ds:List D}:H a=some (.lst vs)→¬ρ.has a→RepL K ρ H vs ds→Rep K ρ H (.ref a) (.lv ds)
 | ro {a:Addr} {vs:List V} {ds:List D}:wH K ρ H a vs→RepL K ρ H vs ds→Rep K ρ H (.ref a) (.ro ds)
 | dv {a:Addr} {us:List (Key×V)} {kvs:List (Key×D)}:H a=some (.dK us)→¬ρ.has a→RepK K ρ H us kvs→Rep K ρ H (.ref a) (.dv kvs)
 | ob {a:Addr} {n:Nat}:ρ.ob[n]?=some a→Rep K ρ H (.ref a) (.ob n)
inductive RepL (K:PySem.W.Frag) (ρ:Ad) (H:Hp):List V→List D→Prop where
 | nil:RepL K ρ H [] []
 | cons {v:V} {vs:List V} {d:D} {ds:List D}:Rep K ρ H v d→RepL K ρ H vs ds→RepL K ρ H (v::vs) (d::ds)
inductive RepK (K:PySem.W.Frag) (ρ:Ad) (H:Hp):List (Key×V)→List (Key×D)→Prop where
 | nil:RepK K ρ H [] []
 | cons {k:Key} {v:V} {vs:List (Key×V)} {d:D} {ds:List (Key×D)}:Rep K ρ H v d→RepK K ρ H vs ds→RepK K ρ H ((k,v)::vs) ((k,d)::ds)
end
structure Ch (ρ:Ad) (H:Hp) (ρ':Ad) (H':Hp):Prop where
 pre:∀(n:Nat) a,ρ.ob[n]?=some a→ρ'.ob[n]?=some a
 old:∀b o,¬ρ.has b→H b=some o→¬ρ'.has b∧H' b=some o
theorem Ch.refl (ρ:Ad) (H:Hp):Ch ρ H ρ H:=⟨fun _ _ e=>e,fun _ _ n e=>⟨n,e⟩⟩
theorem Ch.trans {ρ ρ1 ρ2:Ad} {H H1 H2:Hp} (a:Ch ρ H ρ1 H1) (b:Ch ρ1 H1 ρ2 H2):Ch ρ H ρ2 H2:=
 ⟨fun n x e=>b.pre n x (a.pre n x e),fun x o n e=>let ⟨n',e'⟩:=a.old x o n e;b.old x o n' e'⟩
structure Stp (ρ:Ad) (H:Hp) (ρ':Ad) (H':Hp):Prop extends Ch ρ H ρ' H' where
 rs:ρ'.rs=ρ.rs
 res:∀b∈ρ.rs,H' b=H b
theorem Stp.refl (ρ:Ad) (H:Hp):Stp ρ H ρ H:=⟨.refl _ _,rfl,fun _ _=>rfl⟩
theorem Stp.trans {ρ ρ1 ρ2:Ad} {H H1 H2:Hp} (a:Stp ρ H ρ1 H1) (b:Stp ρ1 H1 ρ2 H2):Stp ρ H ρ2 H2:=
 ⟨a.toCh.trans b.toCh,b.rs.trans a.rs,fun x hx=>(b.res x (by rw [a.rs];exact hx)).trans (a.res x hx)⟩
instance {ρ ρ':Ad} {H H':Hp}:CoeOut (Stp ρ H ρ' H') (Ch ρ H ρ' H'):=⟨Stp.toCh⟩
theorem Ch.rd {ρ ρ':Ad} {H H':Hp} {a:Addr} {u:HO} (S:Ch ρ H ρ' H') (h:Rd H a u) (n:¬ρ.has a):Rd H' a u∧¬ρ'.has a:=by
 rcases h with h | ⟨o,h⟩
 ·obtain ⟨q,e⟩:=S.old a _ n h;exact ⟨.inl e,q⟩
 ·obtain ⟨q,e⟩:=S.old a _ n h;exact ⟨.inr ⟨o,e⟩,q⟩
mutual
theorem Rep.mono {K:PySem.W.Frag} {ρ ρ':Ad} {H H':Hp} (S:Ch ρ H ρ' H'):∀{v:V} {d:D},Rep K ρ H v d→Rep K ρ' H' v d
 | _,_,.non=>.non
 | _,_,.bl b=>.bl b
 | _,_,.int i=>.int i
 | _,_,.str x=>.str x
 | _,_,.ty n=>.ty n
 | _,_,.tup h l=>.tup (h.elim (fun ⟨a,n⟩=>.inl (S.rd a n)) .inr) (RepL.mono S l)
 | _,_,.lv h n l=>let ⟨n',h'⟩:=S.old _ _ n h;.lv h' n' (RepL.mono S l)
 | _,_,.ro h l=>.ro (h.elim (fun ⟨a,n⟩=>.inl (S.rd a n)) .inr) (RepL.mono S l)
 | _,_,.dv h n l=>let ⟨n',h'⟩:=S.old _ _ n h;.dv h' n' (RepK.mono S l)
 | _,_,.ob e=>.ob (S.pre _ _ e)
theorem RepL.mono {K:PySem.W.Frag} {ρ ρ':Ad} {H H':Hp} (S:Ch ρ H ρ' H'):∀{vs:List V} {ds:List D},RepL K ρ H vs ds→RepL K ρ' H' vs ds
 | _,_,.nil=>.nil
 | _,_,.cons h t=>.cons (Rep.mono S h) (RepL.mono S t)
theorem RepK.mono {K:PySem.W.Frag} {ρ ρ':Ad} {H H':Hp} (S:Ch ρ H ρ' H'):∀{vs:List (Key×V)} {ds:List (Key×D)},RepK K ρ H vs ds→RepK K ρ' H' vs ds
 | _,_,.nil=>.nil
 | _,_,.cons h t=>.cons (Rep.mono S h) (RepK.mono S t)
end
section
variable {K:PySem.W.Frag} {ρ ρ':Ad} {H H':Hp}
theorem RepL.length:∀{vs:List V} {ds:List D},RepL K ρ H vs ds→vs.length=ds.length
 | _,_,.nil=>rfl
 | _,_,.cons _ t=>by rw [List.length_cons,List.length_cons,RepL.length t]
theorem RepL.got:∀{vs:List V} {ds:List D} {i:Nat} {d:D},RepL K ρ H vs ds→ds[i]?=some d→∃v,vs[i]?=some v∧Rep K ρ H v d
 | _,_,_,_,.nil,e=>by simp at e
 | _,_,0,_,.cons r _,e=>by simp at e;subst e;exact ⟨_,rfl,r⟩
 | _,_,i+1,d,.cons _ t,e=>by
  obtain ⟨u,h1,h2⟩:=RepL.got (i:=i) (d:=d) t (by simpa using e)
  exact ⟨u,by simpa using h1,h2⟩
theorem RepL.append:∀{vs ws:List V} {ds es:List D},RepL K ρ H vs ds→RepL K ρ H ws es→RepL K ρ H (vs++ws) (ds++es)
 | _,_,_,_,.nil,s=>s
 | _,_,_,_,.cons r t,s=>.cons r (RepL.append t s)
theorem RepL.take:∀{vs:List V} {ds:List D} (n:Nat),RepL K ρ H vs ds→RepL K ρ H (vs.take n) (ds.take n)
 | _,_,0,_=>.nil
 | _,_,_+1,.nil=>.nil
 | _,_,n+1,.cons r t=>.cons r (RepL.take n t)
theorem RepL.drop:∀{vs:List V} {ds:List D} (n:Nat),RepL K ρ H vs ds→RepL K ρ H (vs.drop n) (ds.drop n)
 | _,_,0,r=>r
 | _,_,_+1,.nil=>.nil
 | _,_,n+1,.cons _ t=>RepL.drop n t
theorem RepL.set {v:V} {d:D} (r:Rep K ρ H v d):∀{vs:List V} {ds:List D} (i:Nat),RepL K ρ H vs ds→RepL K ρ H (vs.set i v) (ds.set i d)
 | _,_,_,.nil=>.nil
 | _,_,0,.cons _ t=>.cons r t
 | _,_,i+1,.cons q t=>.cons q (RepL.set r i t)
theorem RepL.snoc {v:V} {d:D} {vs:List V} {ds:List D} (t:RepL K ρ H vs ds) (r:Rep K ρ H v d):RepL K ρ H (vs++[v]) (ds++[d]):=t.append (.cons r .nil)
theorem RepL.isEmpty {vs:List V} {ds:List D} (t:RepL K ρ H vs ds):vs.isEmpty=ds.isEmpty:=by cases t <;> rfl
theorem TupAt.sq {a:Addr} {vs:List V} (h:TupAt K ρ H a vs):SqT K H a vs:=by
 rcases h with ⟨h,_⟩ | h
 ·exact .inl h
 ·rcases h with (h | ⟨o,h⟩) | h
  ·cases h
  ·cases h
  ·exact .inr h
theorem wH.sq {a:Addr} {vs:List V} (h:wH K ρ H a vs):SqL K H a vs:=by
 rcases h with ⟨h,_⟩ | h
 ·exact .inl h
 ·rcases h with (h | ⟨o,h⟩) | h
  ·cases h
  ·cases h
  ·exact .inr h
end
def ObR (K:PySem.W.Frag) (ρ:Ad) (H:Hp) (a:Addr):MO→Prop
 | .lst ds=>∃vs,H a=some (.lst vs)∧RepL K ρ H vs ds
 | .dct kvs=>∃us,H a=some (.dK us)∧RepK K ρ H us kvs
structure Sim (K:PySem.W.Frag) (ρ:Ad) (h:MH) (H:Hp):Prop where
 len:ρ.ob.length=h.length
 nd:ρ.ob.Nodup
 at_:∀(n:Nat) a o,ρ.ob[n]?=some a→h[n]?=some o→ObR K ρ H a o
 rsv:∀b∈ρ.rs,(∃o,H b=some o)∧b∉ρ.ob
section
variable {K:PySem.W.Frag} {ρ ρ':Ad} {H H':Hp} {h:MH}
theorem ObR.has {a:Addr} {o:MO} (x:ObR K ρ H a o):∃u,H a=some u:=by
 cases o with
 | lst ds=>obtain ⟨vs,e,_⟩:=x;exact ⟨_,e⟩
 | dct ds=>obtain ⟨vs,e,_⟩:=x;exact ⟨_,e⟩
theorem ObR.mono {a:Addr} {o:MO} (x:ObR K ρ H a o) (T:Ch ρ H ρ' H') (e:H' a=H a):ObR K ρ' H' a o:=by
 cases o with
 | lst ds=>obtain ⟨vs,x,r⟩:=x;exact ⟨vs,e.trans x,r.mono T⟩
 | dct ds=>obtain ⟨vs,x,r⟩:=x;exact ⟨vs,e.trans x,r.mono T⟩
theorem Sim.mem (S:Sim K ρ h H) {a:Addr} (ha:a∈ρ.ob):∃(n:Nat) (o:MO),ρ.ob[n]?=some a∧h[n]?=some o∧ObR K ρ H a o:=by
 obtain ⟨n,hn,e⟩:=List.mem_iff_getElem.mp ha
 have hn':n < h.length:=by rw [←S.len];exact hn
 have e1:ρ.ob[n]?=some a:=by rw [List.getElem?_eq_getElem hn,e]
 exact ⟨n,h[n],e1,List.getElem?_eq_getElem hn',S.at_ n a _ e1 (List.getElem?_eq_getElem hn')⟩
theorem Sim.has (S:Sim K ρ h H) {a:Addr} (ha:ρ.has a):∃u,H a=some u:=by
 rcases ha with ha | ha
 ·obtain ⟨_,_,_,_,x⟩:=S.mem ha;exact x.has
 ·exact (S.rsv a ha).1
theorem Sim.fresh (S:Sim K ρ h H) {p:Addr} (hp:H p=none):¬ρ.has p:=fun m=>by
 obtain ⟨u,e⟩:=S.has m
 rw [hp] at e;cases e
theorem Stp.laid (S:Sim K ρ h H) {p:Addr} {o:HO} (hp:H p=none):Stp ρ H ρ (upd H p o):=
 ⟨⟨fun _ _ e=>e,fun b u n e=>⟨n,by rw [av (az e hp)];exact e⟩⟩,rfl,fun b hb=>by
  obtain ⟨u,e⟩:=(S.rsv b hb).1
  rw [av (az e hp)]⟩
theorem Sim.same (S:Sim K ρ h H) (T:Stp ρ H ρ H') (k:∀a∈ρ.ob,H' a=H a):Sim K ρ h H':=
 ⟨S.len,S.nd,fun n a o e1 e2=>(S.at_ n a o e1 e2).mono T.toCh (k a (List.mem_of_getElem? e1)),fun b hb=>⟨by rw [T.res b hb];exact (S.rsv b hb).1,(S.rsv b hb).2⟩⟩
theorem Sim.laid (S:Sim K ρ h H) {p:Addr} {o:HO} (hp:H p=none):Sim K ρ h (upd H p o):=
 S.same (Stp.laid S hp) fun a ha=>by
  obtain ⟨u,e⟩:=S.has (.inl ha)
  rw [av (az e hp)]
abbrev Ad.more (ρ:Ad) (p:Addr):Ad:=⟨ρ.ob++[p],ρ.rs⟩
theorem Stp.made (S:Sim K ρ h H) {p:Addr} {o:HO} (hp:H p=none):Stp ρ H (ρ.more p) (upd H p o):=by
 refine ⟨⟨fun n a e=>?_,fun b u n e=>?_⟩,rfl,(Stp.laid S hp).res⟩
 ·show (ρ.ob++[p])[n]?=_
  rw [List.getElem?_append_left (List.getElem?_eq_some_iff.mp e).1];exact e
 ·refine ⟨fun m=>?_,by rw [av (az e hp)];exact e⟩
  rcases m with m | m
  ·rcases List.mem_append.mp m with m | m
   ·exact n (.inl m)
   ·exact az e hp (List.mem_singleton.mp m)
  ·exact n (.inr m)
theorem Sim.made (S:Sim K ρ h H) {p:Addr} {u:HO} {o:MO} (hp:H p=none) (ho:ObR K (ρ.more p) (upd H p u) p o):Sim K (ρ.more p) (h++[o]) (upd H p u):=by
 refine ⟨by simp [S.len],?_,fun n a x e1 e2=>?_,fun b hb=>?_⟩
 ·show (ρ.ob++[p]).Nodup
  rw [List.nodup_append]
  refine ⟨S.nd,by simp,fun a ha b hb z=>?_⟩
  rw [List.mem_singleton.mp hb] at z
  exact S.fresh hp (.inl (z ▸ ha))
 ·by_cases hn:n < ρ.ob.length
  ·have e1:(ρ.ob++[p])[n]?=some a:=e1
   rw [List.getElem?_append_left hn] at e1
   rw [List.getElem?_append_left (by rw [←S.len];exact hn)] at e2
   have q:=S.at_ n a x e1 e2
   obtain ⟨w,ew⟩:=q.has
   exact q.mono (Stp.made S hp).toCh (av (az ew hp))
  ·have l1:=(List.getElem?_eq_some_iff.mp e1).1
   simp at l1
   have hn':n=ρ.ob.length:=by omega
   subst hn'
   have e1:(ρ.ob++[p])[ρ.ob.length]?=some a:=e1
   rw [List.getElem?_append_right (Nat.le_refl _)] at e1
   rw [List.getElem?_append_right (by rw [S.len];exact Nat.le_refl _)] at e2
   simp at e1
   rw [S.len] at e2
   simp at e2
   subst e1;subst e2
   exact ho
 ·obtain ⟨⟨v,e⟩,n⟩:=S.rsv b hb
  have z:=az e hp
  refine ⟨⟨v,by rw [av z];exact e⟩,fun m=>?_⟩
  rcases List.mem_append.mp m with m | m
  ·exact n m
  ·exact z (List.mem_singleton.mp m)
theorem Stp.wrote (S:Sim K ρ h H) {a:Addr} {o:HO} (ha:a∈ρ.ob):Stp ρ H ρ (upd H a o):=
 ⟨⟨fun _ _ e=>e,fun b u n e=>⟨n,by rw [av (fun (z:b=a)=>n (.inl (by rw [z];exact ha)))];exact e⟩⟩,rfl,fun b hb=>av fun (z:b=a)=>(S.rsv b hb).2 (by rw [z];exact ha)⟩
theorem Sim.wrote (S:Sim K ρ h H) {n:Nat} {a:Addr} {u:HO} {o:MO} (e:ρ.ob[n]?=some a) (ho:ObR K ρ (upd H a u) a o):Sim K ρ (h.set n o) (upd H a u):=by
 have ha:=List.mem_of_getElem? e
 have T:Stp ρ H ρ (upd H a u):=Stp.wrote S ha
 refine ⟨by rw [List.length_set];exact S.len,S.nd,fun m b x e1 e2=>?_,fun b hb=>⟨by rw [T.res b hb];exact (S.rsv b hb).1,(S.rsv b hb).2⟩⟩
 by_cases hm:n=m
 ·subst hm
  have l2:n < h.length:=by rw [←S.len];exact (List.getElem?_eq_some_iff.mp e).1
  rw [e] at e1;cases e1
  rw [List.getElem?_set_self l2] at e2;cases e2
  exact ho
 ·rw [List.getElem?_set_ne hm] at e2
  have q:=S.at_ m b x e1 e2
  have hb:b≠a:=by
   intro z
   subst z
   exact hm ((List.getElem?_inj (List.getElem?_eq_some_iff.mp e).1 S.nd).mp (e.trans e1.symm))
  exact q.mono T.toCh (av hb)
abbrev Ad.keep (ρ:Ad) (l:Addr):Ad:=⟨ρ.ob,l::ρ.rs⟩
theorem Ch.keep {l:Addr} {o:HO} (hl:H l=none):Ch ρ H (ρ.keep l) (upd H l o):=by
 refine ⟨fun n a e=>e,fun b u n e=>⟨fun m=>?_,by rw [av (az e hl)];exact e⟩⟩
 rcases m with m | m
 ·exact n (.inl m)
 ·rcases List.mem_cons.mp m with m | m
  ·exact az e hl m
  ·exact n (.inr m)
theorem Sim.keep (S:Sim K ρ h H) {l:Addr} {o:HO} (hl:H l=none):Sim K (ρ.keep l) h (upd H l o):=by
 refine ⟨S.len,S.nd,fun n a x e1 e2=>?_,fun b hb=>?_⟩
 ·have q:=S.at_ n a x e1 e2
  obtain ⟨w,ew⟩:=q.has
  exact q.mono (Ch.keep hl) (av (az ew hl))
 ·rcases List.mem_cons.mp hb with rfl | hb
  ·exact ⟨⟨_,aN⟩,fun m=>S.fresh hl (.inl m)⟩
  ·obtain ⟨⟨v,e⟩,n⟩:=S.rsv b hb
   exact ⟨⟨v,by rw [av (az e hl)];exact e⟩,n⟩
theorem Ch.put {l:Addr} {o:HO} (hl:l∈ρ.rs):Ch ρ H ρ (upd H l o):=⟨fun n a e=>e,fun b u n e=>⟨n,by rw [av (fun (z:b=l)=>n (.inr (by rw [z];exact hl)))];exact e⟩⟩
theorem Sim.put (S:Sim K ρ h H) {l:Addr} {o:HO} (hl:l∈ρ.rs):Sim K ρ h (upd H l o):=by
 refine ⟨S.len,S.nd,fun n a x e1 e2=>(S.at_ n a x e1 e2).mono (Ch.put hl) (av fun (z:a=l)=>(S.rsv l hl).2 (by rw [←z];exact List.mem_of_getElem? e1)),fun b hb=>⟨?_,(S.rsv b hb).2⟩⟩
 by_cases z:b=l
 ·subst z;exact ⟨_,aN⟩
 ·rw [av z];exact (S.rsv b hb).1
theorem Ch.free {os rs rs':List Addr} {H:Hp} (hs:∀b∈rs',b∈rs):Ch ⟨os,rs⟩ H ⟨os,rs'⟩ H:=⟨fun n a e=>e,fun b u n e=>⟨fun m=>n (m.elim .inl fun m=>.inr (hs b m)),e⟩⟩
theorem Sim.free {os rs rs':List Addr} {H:Hp} (S:Sim K ⟨os,rs⟩ h H) (hs:∀b∈rs',b∈rs):Sim K ⟨os,rs'⟩ h H:=
 ⟨S.len,S.nd,fun n a x e1 e2=>(S.at_ n a x e1 e2).mono (Ch.free hs) rfl,fun b hb=>S.rsv b (hs b hb)⟩
end
structure RepS (K:PySem.W.Frag) (ρ:Ad) (H:Hp) (σ:St) (δ:DS):Prop where
 len:σ.length=δ.length
 at_:∀(i:Nat) d,δ[i]?=some (some d)→∃v,σ[i]?=some (some v)∧Rep K ρ H v d
section
variable {K:PySem.W.Frag} {ρ ρ':Ad} {H H':Hp} {h:MH} {σ:St} {δ:DS}
theorem RepS.mono (R:RepS K ρ H σ δ) (S:Ch ρ H ρ' H'):RepS K ρ' H' σ δ:=⟨R.len,fun i d e=>let ⟨v,a,b⟩:=R.at_ i d e;⟨v,a,b.mono S⟩⟩
theorem RepS.set (R:RepS K ρ H σ δ) {v:V} {d:D} (r:Rep K ρ H v d) (i:Nat):RepS K ρ H (σ.set i (some v)) (δ.set i (some d)):=by
 refine ⟨by rw [List.length_set,List.length_set];exact R.len,fun j e he=>?_⟩
 by_cases hij:i=j
 ·subst hij
  have hl:i < δ.length:=by
   have:=(List.getElem?_eq_some_iff.mp he).1
   rw [List.length_set] at this
   exact this
  rw [List.getElem?_set_self hl] at he
  cases he
  exact ⟨v,by rw [List.getElem?_set_self (by rw [R.len];exact hl)],r⟩
 ·rw [List.getElem?_set_ne hij] at he ⊢
  exact R.at_ j e he
end
abbrev EM:=DS→MH→Option (D×MH)
abbrev TM:=DS→MH→Option (Bool×MH)
abbrev AM:=DS→MH→Option (List D×MH)
inductive Fl where
 | nx | bk | ct | rt (d:D)
abbrev SM:=DS→MH→Option (Fl×DS×MH)
abbrev GM:=D→DS→MH→Option (DS×MH)
abbrev Fn:=List D→MH→Option (D×MH)
inductive PostI (K:PySem.W.Frag) (ρ:Ad) (H:Hp) (h':MH) (d:D) (v:V) (H':Hp):Prop where
 | mk (ρ'):Stp ρ H ρ' H'→Sim K ρ' h' H'→Rep K ρ' H' v d→PostI K ρ H h' d v H'
def cp (K:PySem.W.Frag) (ρ:Ad) (H:Hp) (h':MH) (d:D):VK:=fun v H'=>PostI K ρ H h' d v H'
inductive TMi (K:PySem.W.Frag) (m:EM) (σ:L2.St) (H:Hp) (Q:VK):Prop where
 | mk (ρ δ h d h'):RepS K ρ H σ δ→Sim K ρ h H→(m δ h=some (d,h'))→(∀v H',cp K ρ H h' d v H'→Q v H')→TMi K m σ H Q
def tM (K:PySem.W.Frag) (m:EM):TE:=fun σ H Q=>TMi K m σ H Q
inductive TMTi (K:PySem.W.Frag) (m:TM) (σ:L2.St) (H:Hp) (Q:Bool→Hp→Prop):Prop where
 | mk (ρ δ h b h'):RepS K ρ H σ δ→Sim K ρ h H→(m δ h=some (b,h'))→(∀ρ' H',Stp ρ H ρ' H'→Sim K ρ' h' H'→Q b H')→TMTi K m σ H Q
def tMT (K:PySem.W.Frag) (m:TM):TT:=fun σ H Q=>TMTi K m σ H Q
inductive TMAi (K:PySem.W.Frag) (m:AM) (σ:L2.St) (H:Hp) (Q:List V→Hp→Prop):Prop where
 | mk (ρ δ h ds h'):RepS K ρ H σ δ→Sim K ρ h H→(m δ h=some (ds,h'))→(∀vs ρ' H',Stp ρ H ρ' H'→Sim K ρ' h' H'→RepL K ρ' H' vs ds→Q vs H')→TMAi K m σ H Q
def tMA (K:PySem.W.Frag) (m:AM):TA:=fun σ H Q=>TMAi K m σ H Q
inductive TMSi (K:PySem.W.Frag) (m:SM) (E:Ends) (σ:L2.St) (H:Hp):Prop where
 | mk (ρ δ h fl δ' h'):RepS K ρ H σ δ→Sim K ρ h H→(m δ h=some (fl,δ',h'))→(∀ρ' H',Stp ρ H ρ' H'→Sim K ρ' h' H'→
 match fl with
 | .nx=>∀σ',RepS K ρ' H' σ' δ'→E.nx σ' H'
 | .bk=>∀σ',RepS K ρ' H' σ' δ'→E.bk σ' H'
 | .ct=>∀σ',RepS K ρ' H' σ' δ'→E.ct σ' H'
 | .rt d=>∀v,Rep K ρ' H' v d→E.rt v H')→TMSi K m E σ H
def tMS (K:PySem.W.Frag) (m:SM):TS:=fun E σ H=>TMSi K m E σ H
inductive TMGi (K:PySem.W.Frag) (m:GM) (v:V) (σ:L2.St) (H:Hp) (Q:L2.St→Hp→Prop):Prop where
 | mk (ρ δ h d δ' h'):RepS K ρ H σ δ→Sim K ρ h H→Rep K ρ H v d→(m d δ h=some (δ',h'))→(∀ρ' H' σ',Stp ρ H ρ' H'→Sim K ρ' h' H'→RepS K ρ' H' σ' δ'→Q σ' H')→TMGi K m v σ H Q
def tMG (K:PySem.W.Frag) (m:GM):TG:=fun v σ H Q=>TMGi K m v σ H Q
def SE (X:Cx) (e:Expr) (m:EM):Prop:=PE X e (tM X.K m)
def ST (X:Cx) (e:Expr) (m:TM):Prop:=PT X e (tMT X.K m)
def SW (X:Cx) (e:Expr) (m:TM):Prop:=PW X e (tMT X.K m)
def SA (X:Cx) (es:List Expr) (m:AM):Prop:=PA X es (tMA X.K m)
def SS (X:Cx) (s:Stmt) (m:SM):Prop:=PS X s (tMS X.K m)
def SSs (X:Cx) (s:List Stmt) (m:SM):Prop:=PSs X s (tMS X.K m)
def SG (X:Cx) (e:Expr) (m:GM):Prop:=PG X e (tMG X.K m)
theorem _root_.L2.PE.imp {X:Cx} {e:Expr} {t t':TE} (h:PE X e t) (i:∀σ H Q,t' σ H Q→t σ H Q):PE X e t':=fun pins s σ H Q I q=>h pins s σ H Q I (i σ H Q q)
theorem _root_.L2.PT.imp {X:Cx} {e:Expr} {t t':TT} (h:PT X e t) (i:∀σ H Q,t' σ H Q→t σ H Q):PT X e t':=fun pins s σ H Q I q=>h pins s σ H Q I (i σ H Q q)
theorem _root_.L2.PW.imp {X:Cx} {e:Expr} {t t':TT} (h:PW X e t) (i:∀σ H Q,t' σ H Q→t σ H Q):PW X e t':=fun wh pins s σ H Q I q=>h wh pins s σ H Q I (i σ H Q q)
theorem _root_.L2.PA.imp {X:Cx} {e:List Expr} {t t':TA} (h:PA X e t) (i:∀σ H Q,t' σ H Q→t σ H Q):PA X e t':=fun pos pins s σ H Q I q=>h pos pins s σ H Q I (i σ H Q q)
theorem _root_.L2.PS.imp {X:Cx} {e:Stmt} {t t':TS} (h:PS X e t) (i:∀E σ H,t' E σ H→t E σ H):PS X e t':=fun pins s σ H E I q=>h pins s σ H E I (i E σ H q)
theorem _root_.L2.PSs.imp {X:Cx} {e:List Stmt} {t t':TS} (h:PSs X e t) (i:∀E σ H,t' E σ H→t E σ H):PSs X e t':=fun pins s σ H E I q=>h pins s σ H E I (i E σ H q)
theorem _root_.L2.PG.imp {X:Cx} {e:Expr} {t t':TG} (h:PG X e t) (i:∀v σ H Q,t' v σ H Q→t v σ H Q):PG X e t':=fun pins s σ H v u Q I r q=>h pins s σ H v u Q I r (i v σ H Q q)
end Sm
namespace Sm
open PySem L2
theorem bnd {α β:Type} {o:Option α} {f:α→Option β} {b:β} (h:o.bind f=some b):∃a,o=some a∧f a=some b:=Option.bind_eq_some_iff.mp h
theorem mpd {α β:Type} {o:Option α} {f:α→β} {b:β} (h:o.map f=some b):∃a,o=some a∧f a=b:=Option.map_eq_some_iff.mp h
theorem uo {x:D} {α:Type} {g:Bool→Option α} {z:α} (e:(match x with | .bl c=>g c | _=>none)=some z):∃c,x=.bl c∧g c=some z:=by
 cases x <;> first | exact absurd e (by intro z;cases z) | exact ⟨_,rfl,e⟩
section
variable {K:PySem.W.Frag} {ρ ρ':Ad} {H H':Hp} {h h':MH} {d:D} {v:V}
theorem cp.here (S:Sim K ρ h H) (r:Rep K ρ H v d):cp K ρ H h d v H:=⟨ρ,.refl _ _,S,r⟩
theorem cp.step {ρ1:Ad} {H1:Hp} (T:Stp ρ H ρ1 H1) (p:cp K ρ1 H1 h' d v H'):cp K ρ H h' d v H':=let ⟨ρ2,T2,S2,r2⟩:=p;⟨ρ2,T.trans T2,S2,r2⟩
theorem cp.tup {p:Addr} {vs:List V} {ds:List D} (S:Sim K ρ h H) (r:RepL K ρ H vs ds) (hp:H p=none):cp K ρ H h (.tup ds) (.ref p) (upd H p (.tup vs)):=
 ⟨ρ,Stp.laid S hp,S.laid hp,.tup (.inl ⟨.inl aN,S.fresh hp⟩) (r.mono (Stp.laid S hp).toCh)⟩
theorem cp.lv {p:Addr} {vs:List V} {ds:List D} (S:Sim K ρ h H) (r:RepL K ρ H vs ds) (hp:H p=none):cp K ρ H h (.lv ds) (.ref p) (upd H p (.lst vs)):=
 ⟨ρ,Stp.laid S hp,S.laid hp,.lv aN (S.fresh hp) (r.mono (Stp.laid S hp).toCh)⟩
theorem cp.dv {p:Addr} {us:List (Key×V)} {ds:List (Key×D)} (S:Sim K ρ h H) (r:RepK K ρ H us ds) (hp:H p=none):cp K ρ H h (.dv ds) (.ref p) (upd H p (.dK us)):=
 ⟨ρ,Stp.laid S hp,S.laid hp,.dv aN (S.fresh hp) (r.mono (Stp.laid S hp).toCh)⟩
end
def af (i:Nat):EM:=fun δ h=>(δ[i]?).join.map fun d=>(d,h)
def eK (d:D):EM:=fun _ h=>some (d,h)
def eOp (f:D→D→MH→Option (D×MH)) (a b:EM):EM:=fun δ h=>(a δ h).bind fun p=>(b δ p.2).bind fun q=>f p.1 q.1 q.2
def eUn (f:D→MH→Option (D×MH)) (a:EM):EM:=fun δ h=>(a δ h).bind fun p=>f p.1 p.2
def ao:AM:=fun _ h=>some ([],h)
def ae (a:EM) (r:AM):AM:=fun δ h=>(a δ h).bind fun p=>(r δ p.2).bind fun q=>some (p.1::q.1,q.2)
def eFn (f:Fn) (a:AM):EM:=fun δ h=>(a δ h).bind fun p=>f p.1 p.2
def eIf (t:TM) (a b:EM):EM:=fun δ h=>(t δ h).bind fun p=>if p.1 then a δ p.2 else b δ p.2
def aR (a:EM):TM:=fun δ h=>(a δ h).bind fun p=>match p.1 with
 | .bl b=>some (b,p.2)
 | _=>none
def o5 (t:TM):TM:=fun δ h=>(t δ h).map fun p=>(!p.1,p.2)
def gz (a b:TM):TM:=fun δ h=>(a δ h).bind fun p=>if p.1 then b δ p.2 else some (false,p.2)
def tOr (a b:TM):TM:=fun δ h=>(a δ h).bind fun p=>if p.1 then some (true,p.2) else b δ p.2
def tT (a b:EM):EM:=fun δ h=>(a δ h).bind fun p=>match p.1 with
 | .bl c=>if c then b δ p.2 else some (.bl false,p.2)
 | _=>none
def eOr (a b:EM):EM:=fun δ h=>(a δ h).bind fun p=>match p.1 with
 | .bl c=>if c then some (.bl true,p.2) else b δ p.2
 | _=>none
def ba:Fn:=fun ds h=>some (.tup ds,h)
inductive RSi (K:PySem.W.Frag) (f:D→D→MH→Option (D×MH)) (x y:V) (H:Hp) (Q:VK):Prop where
 | mk (ρ h d e z h'):Sim K ρ h H→Rep K ρ H x d→Rep K ρ H y e→(f d e h=some (z,h'))→(∀v H',cp K ρ H h' z v H'→Q v H')→RSi K f x y H Q
def rS (K:PySem.W.Frag) (f:D→D→MH→Option (D×MH)):R2:=fun x y H Q=>RSi K f x y H Q
def OpS (X:Cx) (g:Value→Value→Sem Value) (f:D→D→MH→Option (D×MH)):Prop:=OpR X g (rS X.K f)
inductive RUi (K:PySem.W.Frag) (f:D→MH→Option (D×MH)) (x:V) (H:Hp) (Q:VK):Prop where
 | mk (ρ h d z h'):Sim K ρ h H→Rep K ρ H x d→(f d h=some (z,h'))→(∀v H',cp K ρ H h' z v H'→Q v H')→RUi K f x H Q
def rU (K:PySem.W.Frag) (f:D→MH→Option (D×MH)):V→Hp→VK→Prop:=fun x H Q=>RUi K f x H Q
inductive RFi (K:PySem.W.Frag) (f:Fn) (vs:List V) (H:Hp) (Q:VK):Prop where
 | mk (ρ h ds z h'):Sim K ρ h H→RepL K ρ H vs ds→(f ds h=some (z,h'))→(∀v H',cp K ρ H h' z v H'→Q v H')→RFi K f vs H Q
def rF (K:PySem.W.Frag) (f:Fn):List V→Hp→VK→Prop:=fun vs H Q=>RFi K f vs H Q
def dI (X:Cx) (g:Value) (f:Fn):Prop:=cW X g (rF X.K f)
section
variable {X:Cx} {a b c e:Expr} {es:List Expr} {pos:Pos} {ma mb mc:EM} {mt mu:TM} {m:AM} {f:D→D→MH→Option (D×MH)}
theorem uJ {i:Nat} {x:Str} (hN:X.N[i]?=some x) (hv:Vis X.env.scope x) (hd:(x==("__debug__":Str))=false:=by kernel_rfl) (hcd:(x==("__classdict__":Str))=false:=by kernel_rfl):SE X (.Name x pos) (af i):=
 (vn hN hv hd hcd).imp fun σ H Q ⟨ρ,δ,h,d,h',R,S,e,k⟩=>by
  obtain ⟨d',e1,e2⟩:=mpd e
  cases e2
  obtain ⟨v,ev,r⟩:=R.at_ i _ (Option.join_eq_some_iff.mp e1)
  exact ⟨v,ev,k v H (.here S r)⟩
theorem qi {v:V} {d:D} (hp:PE X e (tC v)) (hr:∀ρ H,Rep X.K ρ H v d):SE X e (eK d):=hp.imp fun σ H Q ⟨ρ,δ,h,d',h',R,S,ee,k⟩=>by
 cases ee
 exact k v H (.here S (hr _ _))
theorem ai {i j}:SE X (.Constant (.int i) j pos) (eK (.int i)):=qi vw fun _ _=>.int i
theorem mx {b j}:SE X (.Constant (.bool b) j pos) (eK (.bl b)):=qi xI fun _ _=>.bl b
theorem kM {j}:SE X (.Constant .none j pos) (eK .non):=qi vt fun _ _=>.non
theorem au {x j} (h:PyData.strOk x=true:=by decide+kernel):SE X (.Constant (.str x) j pos) (eK (.str x)):=qi vp fun _ _=>.str h
theorem xf {x:Str} {n:String} (hg:Gl X x) (hm:X.mg x=none) (hv:bootBuiltins x=some (.type n)) (hn:x≠"__name__":=by decide) (hd:(x==("__debug__":Str))=false:=by kernel_rfl):SE X (.Name x pos) (eK (.ty n)):=
 qi (sY (v:=.ty n) hg hm hv rfl hn hd) fun _ _=>.ty n
theorem oG {σ:St} {H:Hp} {Q:VK} (h:tM X.K (eOp f ma mb) σ H Q):tOp (rS X.K f) (tM X.K ma) (tM X.K mb) σ H Q:=by
 obtain ⟨ρ,δ,h,d,h',R,S,e,k⟩:=h
 obtain ⟨⟨x,h1⟩,e1,e⟩:=bnd e
 obtain ⟨⟨y,h2⟩,e2,e3⟩:=bnd e
 refine ⟨ρ,δ,h,x,h1,R,S,e1,fun v H1 ⟨ρ1,T1,S1,r1⟩=>?_⟩
 refine ⟨ρ1,δ,h1,y,h2,R.mono T1,S1,e2,fun u H2 ⟨ρ2,T2,S2,r2⟩=>?_⟩
 exact ⟨ρ2,h2,x,y,d,h',S2,r1.mono T2,r2,e3,fun w H3 p=>k w H3 (p.step (T1.trans T2))⟩
theorem aC {op:Operator} (ho:OpS X (binaryOp op) f) (ha:SE X a ma) (hb:SE X b mb):SE X (.BinOp a op b pos) (eOp f ma mb):=(uf ho ha hb).imp fun _ _ _=>oG
theorem dP {op:CmpOp} (ho:OpS X (compareOp op) f) (ha:SE X a ma) (hb:SE X b mb) (hm:behindInMarks op b=false):SE X (.Compare a [op] [b] pos) (eOp f ma mb):=(sW ho ha hb hm).imp fun _ _ _=>oG
theorem aO {op:CmpOp} (ho:OpS X (compareOp op) f) (ha:SE X a ma) (hb:SE X b mb) (hm:behindInMarks op b=false):ST X (.Compare a [op] [b] pos) (aR (eOp f ma mb)):=
 (sG ho ha hb hm).imp fun σ H Q ⟨ρ,δ,h,c,h',R,S,e,k⟩=>by
  obtain ⟨⟨x,h1⟩,e1,e2⟩:=bnd e
  obtain ⟨c',rfl,e2⟩:=uo e2
  cases e2
  refine oG ⟨ρ,δ,h,.bl c,h1,R,S,e1,fun v H' ⟨ρ',T,S',r⟩=>?_⟩
  cases r
  exact ⟨c,rfl,k ρ' H' T S'⟩
theorem fV {op:UnaryOp} {f:D→MH→Option (D×MH)} (ho:UnR X (unaryOp op) (rU X.K f)) (ha:SE X a ma):SE X (.UnaryOp op a pos) (eUn f ma):=(xF ho ha).imp fun σ H Q ⟨ρ,δ,h,d,h',R,S,e,k⟩=>by
 obtain ⟨⟨x,h1⟩,e1,e⟩:=bnd e
 exact ⟨ρ,δ,h,x,h1,R,S,e1,fun v H1 ⟨ρ1,T1,S1,r1⟩=>⟨ρ1,h1,x,d,h',S1,r1,e,fun w H3 p=>k w H3 (p.step T1)⟩⟩
theorem ah:SA X [] ao:=vz.imp fun σ H Q ⟨ρ,δ,h,d,h',R,S,e,k⟩=>by
 cases e
 exact k [] ρ H (.refl _ _) S .nil
theorem aa (ha:SE X e ma) (hr:SA X es m) (hs:starEach (e::es) X.env=(false,eval e X.env)::starEach es X.env:=by kernel_rfl):SA X (e::es) (ae ma m):=
 (sZ ha hr hs).imp fun σ H Q ⟨ρ,δ,h,d,h',R,S,e,k⟩=>by
  obtain ⟨⟨x,h1⟩,e1,e⟩:=bnd e
  obtain ⟨⟨ys,h2⟩,e2,e3⟩:=bnd e
  cases e3
  refine ⟨ρ,δ,h,x,h1,R,S,e1,fun v H1 ⟨ρ1,T1,S1,r1⟩=>?_⟩
  exact ⟨ρ1,δ,h1,ys,h2,R.mono T1,S1,e2,fun vs ρ2 H2 T2 S2 rs=>k _ ρ2 H2 (T1.trans T2) S2 (.cons (r1.mono T2) rs)⟩
def gv (m:AM) (n:Nat):Prop:=∀δ h ds h',m δ h=some (ds,h')→ds.length=n
theorem aj:gv ao 0:=fun δ h ds h' e=>by cases e;rfl
theorem ab {n:Nat} (hr:gv m n):gv (ae ma m) (n+1):=fun δ h ds h' e=>by
 obtain ⟨⟨x,h1⟩,e1,e⟩:=bnd e
 obtain ⟨⟨ys,h2⟩,e2,e3⟩:=bnd e
 cases e3
 rw [List.length_cons,hr _ _ _ _ e2]
theorem aE {x1} {n:Nat} (h:SA X es m) (hl:gv m n) (hn:n≤sizeLine:=by decide):SE X (.Tuple es x1 pos) (eFn ba m):=(vo h).imp fun σ H Q ⟨ρ,δ,h,d,h',R,S,e,k⟩=>by
 obtain ⟨⟨x,h1⟩,e1,e⟩:=bnd e
 cases e
 refine ⟨ρ,δ,h,x,h1,R,S,e1,fun vs ρ1 H1 T1 S1 r1=>⟨by rw [r1.length,hl _ _ _ _ e1];exact hn,fun p hp=>k _ _ (cp.step T1 (.tup S1 r1 hp))⟩⟩
inductive TFLi (K:PySem.W.Frag) (m:AM) (σ:L2.St) (H:Hp) (Q:VK):Prop where
 | mk (ρ δ h ds h'):RepS K ρ H σ δ→Sim K ρ h H→(m δ h=some (ds,h'))→(∀ρ1 H1 p vs,Stp ρ H ρ1 H1→Sim K ρ1 h' H1→H1 p=none→RepL K ρ1 H1 vs ds→Q (.ref p) (upd H1 p (.lst vs)))→TFLi K m σ H Q
def tFL (K:PySem.W.Frag) (m:AM):TE:=fun σ H Q=>TFLi K m σ H Q
def SFL (X:Cx) (e:Expr) (m:AM):Prop:=PE X e (tFL X.K m)
def eLv (m:AM):EM:=fun δ h=>(m δ h).map fun p=>(.lv p.1,p.2)
def eOb (m:AM):EM:=fun δ h=>(m δ h).map fun p=>(.ob p.2.length,p.2++[.lst p.1])
theorem cp.ob {K:PySem.W.Frag} {ρ:Ad} {H:Hp} {h:MH} {p:Addr} {vs:List V} {ds:List D} (S:Sim K ρ h H) (r:RepL K ρ H vs ds) (hp:H p=none):cp K ρ H (h++[.lst ds]) (.ob h.length) (.ref p) (upd H p (.lst vs)):=
 ⟨ρ.more p,Stp.made S hp,S.made hp ⟨vs,aN,r.mono (Stp.made S hp).toCh⟩,.ob (show (ρ.ob++[p])[h.length]?=_ by rw [←S.len,List.getElem?_append_right (Nat.le_refl _)];simp)⟩
theorem SFL.lv (h:SFL X e m):SE X e (eLv m):=h.imp fun σ H Q ⟨ρ,δ,h,d,h',R,S,e,k⟩=>by
 obtain ⟨⟨ds,h1⟩,e1,e2⟩:=mpd e
 cases e2
 exact ⟨ρ,δ,h,ds,h1,R,S,e1,fun ρ1 H1 p vs T S1 hp r=>k _ _ (cp.step T (.lv S1 r hp))⟩
theorem SFL.ob (h:SFL X e m):SE X e (eOb m):=h.imp fun σ H Q ⟨ρ,δ,h,d,h',R,S,e,k⟩=>by
 obtain ⟨⟨ds,h1⟩,e1,e2⟩:=mpd e
 cases e2
 exact ⟨ρ,δ,h,ds,h1,R,S,e1,fun ρ1 H1 p vs T S1 hp r=>k _ _ (cp.step T (.ob S1 r hp))⟩
theorem bo {n:Nat} (h:SA X es m) (hl:gv m n) (hn:n≤sizeLine:=by decide):SFL X (.List es pos) m:=(vv h).imp fun σ H Q ⟨ρ,δ,h,ds,h',R,S,e,k⟩=>
 ⟨ρ,δ,h,ds,h',R,S,e,fun vs ρ1 H1 T1 S1 r1=>⟨by rw [r1.length,hl _ _ _ _ e];exact hn,fun p hp=>k ρ1 H1 p vs T1 S1 hp r1⟩⟩
def eDv:EM:=fun _ h=>some (.dv [],h)
def eDo:EM:=fun _ h=>some (.ob h.length,h++[.dct []])
theorem xg:SE X (.Dict [] [] pos) eDv:=qD.imp fun σ H Q ⟨ρ,δ,h,d,h',R,S,e,k⟩ p hp=>by
 cases e
 exact k _ _ (.dv S .nil hp)
theorem qa (h:ST X a mt):ST X (.UnaryOp .Not a pos) (o5 mt):=(vd h).imp fun σ H Q ⟨ρ,δ,h,c,h',R,S,e,k⟩=>by
 obtain ⟨⟨x,h1⟩,e1,e2⟩:=mpd e
 cases e2
 exact ⟨ρ,δ,h,x,h1,R,S,e1,fun ρ' H' T S'=>k ρ' H' T S'⟩
theorem dM (h:ST X a mt):SW X (.BoolOp .And [a] pos) mt:=sF h
theorem iy (h:ST X a mt):SW X (.BoolOp .Or [a] pos) mt:=u9 h
theorem eL {rest:List Expr} (ha:ST X a mt) (hb:SW X (.BoolOp .And (b::rest) pos) mu):SW X (.BoolOp .And (a::b::rest) pos) (gz mt mu):=(vc ha hb).imp fun σ H Q ⟨ρ,δ,h,c,h',R,S,e,k⟩=>by
 obtain ⟨⟨x,h1⟩,e1,e2⟩:=bnd e
 refine ⟨ρ,δ,h,x,h1,R,S,e1,fun ρ' H' T S'=>?_⟩
 cases x with
 | true=>rw [if_pos rfl] at e2 ⊢;exact ⟨ρ',δ,h1,c,h',R.mono T,S',e2,fun ρ2 H2 T2 S2=>k ρ2 H2 (T.trans T2) S2⟩
 | false=>rw [if_neg (by simp)] at e2 ⊢;cases e2;exact k ρ' H' T S'
theorem mj {rest:List Expr} (ha:ST X a mt) (hb:SW X (.BoolOp .Or (b::rest) pos) mu):SW X (.BoolOp .Or (a::b::rest) pos) (tOr mt mu):=(xD ha hb).imp fun σ H Q ⟨ρ,δ,h,c,h',R,S,e,k⟩=>by
 obtain ⟨⟨x,h1⟩,e1,e2⟩:=bnd e
 refine ⟨ρ,δ,h,x,h1,R,S,e1,fun ρ' H' T S'=>?_⟩
 cases x with
 | false=>rw [if_neg (by simp)] at e2 ⊢;exact ⟨ρ',δ,h1,c,h',R.mono T,S',e2,fun ρ2 H2 T2 S2=>k ρ2 H2 (T.trans T2) S2⟩
 | true=>rw [if_pos rfl] at e2 ⊢;cases e2;exact k ρ' H' T S'
theorem SW.st (h:SW X a mt):ST X a mt:=PW.pt h
theorem qf {op} (h:SE X a ma):SE X (.BoolOp op [a] pos) ma:=vq h
theorem qj {rest:List Expr} (ha:SE X a ma) (hb:SE X (.BoolOp .And (b::rest) pos) mb):SE X (.BoolOp .And (a::b::rest) pos) (tT ma mb):=(vy ha hb).imp fun σ H Q ⟨ρ,δ,h,d,h',R,S,e,k⟩=>by
 obtain ⟨⟨x,h1⟩,e1,e2⟩:=bnd e
 obtain ⟨c,rfl,e2⟩:=uo e2
 refine ⟨ρ,δ,h,.bl c,h1,R,S,e1,fun v H' ⟨ρ',T,S',r⟩=>?_⟩
 cases r
 refine ⟨c,rfl,?_⟩
 cases c with
 | true=>rw [if_pos rfl] at e2 ⊢;exact ⟨ρ',δ,h1,d,h',R.mono T,S',e2,fun v H2 p=>k v H2 (p.step T)⟩
 | false=>rw [if_neg (by simp)] at e2 ⊢;cases e2;exact k _ _ ⟨ρ',T,S',.bl _⟩
def yZ (a:EM):EM:=fun δ h=>(a δ h).bind fun p=>match p.1 with
 | .bl c=>some (.bl (!c),p.2)
 | _=>none
def p5 (d:D) (h:MH):Option Bool:=match d with
 | .non=>some false
 | .bl b=>some b
 | .int i=>some (i !=0)
 | .str x=>if x.length≤sizeLine then some ((x.length:Int) !=0) else none
 | .tup xs=>some (!xs.isEmpty)
 | .dv kvs=>some (!kvs.isEmpty)
 | .ob n=>match h[n]? with
  | some (.lst xs)=>some (!xs.isEmpty)
  | some (.dct kvs)=>some (!kvs.isEmpty)
  | none=>none
 | .lv xs=>some (!xs.isEmpty)
 | .ro xs=>some (!xs.isEmpty)
 | .ty _=>none
def mh (a:EM):TM:=fun δ h=>(a δ h).bind fun p=>(p5 p.1 p.2).map fun c=>(c,p.2)
theorem RepK.isEmpty {K:PySem.W.Frag} {ρ:Ad} {H:Hp} {us:List (Key×V)} {ds:List (Key×D)} (t:RepK K ρ H us ds):us.isEmpty=ds.isEmpty:=by cases t <;> rfl
theorem rV {K:PySem.W.Frag} {ρ:Ad} {H:Hp} {h:MH} {v:V} {d:D} {c:Bool} (S:Sim K ρ h H) (r:Rep K ρ H v d) (e:p5 d h=some c):wD K v H c:=by
 cases r with
 | non=>cases e;exact rfl
 | bl b=>cases e;exact rfl
 | int i=>cases e;exact rfl
 | str hs=>
  unfold p5 at e
  by_cases z:‹Str›.length≤sizeLine
  ·simp only [if_pos z] at e;cases e;exact ⟨z,rfl⟩
  ·simp only [if_neg z] at e;cases e
 | ty n=>cases e
 | tup ht l=>cases e;exact .inr (.inl ⟨_,ht.sq,by rw [l.isEmpty]⟩)
 | lv ht n l=>cases e;exact .inl ⟨_,SqL.of ht,by rw [l.isEmpty]⟩
 | ro ht l=>cases e;exact .inl ⟨_,ht.sq,by rw [l.isEmpty]⟩
 | dv ht n l=>cases e;exact .inr (.inr ⟨_,ht,by rw [l.isEmpty]⟩)
 | ob hn=>
  unfold p5 at e
  rename_i a n
  cases q:h[n]? with
  | none=>simp only [q] at e;cases e
  | some o=>
   have x:=S.at_ n a o hn q
   cases o with
   | lst ds=>simp only [q] at e;cases e;obtain ⟨vs,e1,l⟩:=x;exact .inl ⟨_,SqL.of e1,by rw [l.isEmpty]⟩
   | dct ds=>simp only [q] at e;cases e;obtain ⟨vs,e1,l⟩:=x;exact .inr (.inr ⟨_,e1,by rw [l.isEmpty]⟩)
theorem gB (ha:SE X a ma) (he:∀whole,isTrue a X.env whole=(do let v←whole;standAt a.pos;holding [v] (truthy v)):=by intro _;kernel_rfl):ST X a (mh ma):=(qu ha he).imp fun σ H Q ⟨ρ,δ,h,c,h',R,S,e,k⟩=>by
 obtain ⟨⟨x,h1⟩,e1,e2⟩:=bnd e
 obtain ⟨c',e3,e4⟩:=mpd e2
 cases e4
 exact ⟨ρ,δ,h,x,h1,R,S,e1,fun v H' ⟨ρ',T,S',r⟩=>⟨c,rV S' r e3,k ρ' H' T S'⟩⟩
end
end Sm
namespace Sm
open PySem L2
mutual
def c9:D→D→Bool
 | .non,.non=>true
 | .bl a,.bl b=>a==b
 | .int a,.int b=>a==b
 | .str a,.str b=>decide (a=b)
 | .ty a,.ty b=>a==b
 | .tup a,.tup b=>jn a b
 | .lv a,.lv b=>jn a b
 | .ro a,.ro b=>jn a b
 | .dv a,.dv b=>lW a b
 | .ob a,.ob b=>a==b
 | _,_=>false
def jn:List D→List D→Bool
 | [],[]=>true
 | a::r,b::s=>c9 a b&&jn r s
 | _,_=>false
def lW:List (Key×D)→List (Key×D)→Bool
 | [],[]=>true
 | (k,a)::r,(j,b)::s=>decide (k=j)&&c9 a b&&lW r s
 | _,_=>false
end
mutual
theorem oY:∀(a b:D),c9 a b=true→a=b
 | .non,b,h=>by cases b <;> first | rfl | simp [c9] at h
 | .bl x,b,h=>by cases b <;> simp [c9] at h;rw [h]
 | .int x,b,h=>by cases b <;> simp [c9] at h;rw [h]
 | .str x,b,h=>by cases b <;> simp [c9] at h;rw [h]
 | .ty x,b,h=>by cases b <;> simp [c9] at h;rw [h]
 | .ob x,b,h=>by cases b <;> simp [c9] at h;rw [h]
 | .tup x,b,h=>by cases b <;> simp [c9] at h;rw [gr _ _ h]
 | .lv x,b,h=>by cases b <;> simp [c9] at h;rw [gr _ _ h]
 | .ro x,b,h=>by cases b <;> simp [c9] at h;rw [gr _ _ h]
 | .dv x,b,h=>by cases b <;> simp [c9] at h;rw [lV _ _ h]
theorem gr:∀(a b:List D),jn a b=true→a=b
 | [],b,h=>by cases b <;> first | rfl | simp [jn] at h
 | x::r,b,h=>by
  cases b with
  | nil=>simp [jn] at h
  | cons y s=>simp [jn] at h;rw [oY _ _ h.1,gr _ _ h.2]
theorem lV:∀(a b:List (Key×D)),lW a b=true→a=b
 | [],b,h=>by cases b <;> first | rfl | simp [lW] at h
 | (k,x)::r,b,h=>by
  cases b with
  | nil=>simp [lW] at h
  | cons y s=>
   obtain ⟨j,y⟩:=y
   simp [lW] at h
   rw [h.1.1,oY _ _ h.1.2,lV _ _ h.2]
end
mutual
theorem kB:∀(a:D),c9 a a=true
 | .non=>rfl
 | .bl x=>by simp [c9]
 | .int x=>by simp [c9]
 | .str x=>by simp [c9]
 | .ty x=>by simp [c9]
 | .ob x=>by simp [c9]
 | .tup x=>by simp [c9];exact fu x
 | .lv x=>by simp [c9];exact fu x
 | .ro x=>by simp [c9];exact fu x
 | .dv x=>by simp [c9];exact kA x
theorem fu:∀(a:List D),jn a a=true
 | []=>rfl
 | x::r=>by simp [jn];exact ⟨kB x,fu r⟩
theorem kA:∀(a:List (Key×D)),lW a a=true
 | []=>rfl
 | (k,x)::r=>by simp [lW];exact ⟨kB x,kA r⟩
end
def t4:MO→MO→Bool
 | .lst a,.lst b=>jn a b
 | .dct a,.dct b=>lW a b
 | _,_=>false
theorem oW {a b:MO} (h:t4 a b=true):a=b:=by
 cases a <;> cases b <;> simp [t4] at h
 ·rw [gr _ _ h]
 ·rw [lV _ _ h]
def ou:MH→MH→Bool
 | [],[]=>true
 | a::r,b::s=>t4 a b&&ou r s
 | _,_=>false
theorem oX:∀{a b:MH},ou a b=true→a=b
 | [],b,h=>by cases b <;> first | rfl | simp [ou] at h
 | x::r,b,h=>by
  cases b with
  | nil=>simp [ou] at h
  | cons y s=>simp [ou] at h;rw [oW h.1,oX h.2]
def cD:SM:=fun δ h=>some (.nx,δ,h)
def yj:SM:=fun δ h=>some (.bk,δ,h)
def xh:SM:=fun δ h=>some (.ct,δ,h)
def aB (a b:SM):SM:=fun δ h=>(a δ h).bind fun r=>match r.1 with
 | .nx=>b r.2.1 r.2.2
 | _=>some r
def aU (i:Nat) (e:EM):SM:=fun δ h=>(e δ h).bind fun p=>some (.nx,δ.set i (some p.1),p.2)
def g8 (e:EM) (g:GM):SM:=fun δ h=>(e δ h).bind fun p=>(g p.1 δ p.2).bind fun q=>some (.nx,q.1,q.2)
def iE (e:EM):SM:=fun δ h=>(e δ h).bind fun p=>some (.nx,δ,p.2)
def bH (e:EM):SM:=fun δ h=>(e δ h).bind fun p=>some (.rt p.1,δ,p.2)
def sIf (t:TM) (a b:SM):SM:=fun δ h=>(t δ h).bind fun p=>if p.1 then a δ p.2 else b δ p.2
def gN (i:Nat):GM:=fun d δ h=>some (δ.set i (some d),h)
abbrev GMs:=List D→DS→MH→Option (DS×MH)
def gY:GMs:=fun ds δ h=>match ds with
 | []=>some (δ,h)
 | _=>none
def cw (g:GM) (u:GMs):GMs:=fun ds δ h=>match ds with
 | []=>none
 | d::r=>(g d δ h).bind fun p=>u r p.1 p.2
def gT (n:Nat) (u:GMs):GM:=fun d δ h=>match d with
 | .tup xs=>if xs.length=n then u xs δ h else none
 | _=>none
abbrev W:=List (Nat×MO)
abbrev IM:=DS→MH→Option (List D×W×MH)
def chk:W→MH→Bool
 | [],_=>true
 | (n,o)::r,h=>(match h[n]? with | some u=>t4 u o | none=>false)&&chk r h
def gi (ws:W) (g:GM) (b:SM):List D→SM
 | [],δ,h=>if chk ws h then some (.nx,δ,h) else none
 | x::r,δ,h=>if chk ws h then (g x δ h).bind fun q=>(b q.1 q.2).bind fun z=>match z.1 with
  | .nx=>gi ws g b r z.2.1 z.2.2
  | .ct=>gi ws g b r z.2.1 z.2.2
  | .bk=>some (.nx,z.2.1,z.2.2)
  | .rt d=>some (.rt d,z.2.1,z.2.2)
  else none
def jv (i:IM) (g:GM) (b:SM):SM:=fun δ h=>(i δ h).bind fun p=>gi p.2.1 g b p.1 δ p.2.2
section
variable {X:Cx} {a b c e tg iter:Expr} {es:List Expr} {st:Stmt} {sts rest:List Stmt} {pos:Pos} {ma mb:EM} {mt:TM} {ms mu:SM} {m:AM} {g:GM} {gs:GMs}
theorem aZ:SSs X [] cD:=sI.imp fun E σ H ⟨ρ,δ,h,fl,δ',h',R,S,e,k⟩=>by
 cases e
 exact k ρ H (.refl _ _) S σ R
theorem uP {E:Ends} {σ:St} {H:Hp} (hh:tMS X.K (aB ms mu) E σ H):wX (tMS X.K ms) (tMS X.K mu) E σ H:=by
 obtain ⟨ρ,δ,h,fl,δ',h',R,S,e,k⟩:=hh
 obtain ⟨⟨f1,δ1,h1⟩,e1,e2⟩:=bnd e
 cases f1 with
 | nx=>exact ⟨ρ,δ,h,.nx,δ1,h1,R,S,e1,fun ρ1 H1 T1 S1 σ' R'=>⟨ρ1,δ1,h1,fl,δ',h',R',S1,e2,fun ρ2 H2 T2 S2=>k ρ2 H2 (T1.trans T2) S2⟩⟩
 | bk=>cases e2;exact ⟨ρ,δ,h,.bk,_,_,R,S,e1,fun ρ1 H1 T1 S1=>k ρ1 H1 T1 S1⟩
 | ct=>cases e2;exact ⟨ρ,δ,h,.ct,_,_,R,S,e1,fun ρ1 H1 T1 S1=>k ρ1 H1 T1 S1⟩
 | rt d=>cases e2;exact ⟨ρ,δ,h,.rt d,_,_,R,S,e1,fun ρ1 H1 T1 S1=>k ρ1 H1 T1 S1⟩
theorem ak (h1:SS X st ms) (h2:SSs X rest mu):SSs X (st::rest) (aB ms mu):=(qv h1 h2).imp fun _ _ _=>uP
theorem ax (h1:SS X st ms):SSs X [st] ms:=sH h1
theorem qm {E:Ends} {σ:St} {H:Hp} {i:Nat} (hh:tMS X.K (aU i ma) E σ H):rX (tM X.K ma) (mS i) E σ H:=by
 obtain ⟨ρ,δ,h,fl,δ',h',R,S,e,k⟩:=hh
 obtain ⟨⟨x,h1⟩,e1,e2⟩:=bnd e
 cases e2
 exact ⟨ρ,δ,h,x,h1,R,S,e1,fun v H1 ⟨ρ1,T1,S1,r1⟩=>k ρ1 H1 T1 S1 _ ((R.mono T1).set r1 i)⟩
theorem uE {i:Nat} {x:Str} {pos':Pos} (hN:X.N.Nodup) (hi:X.N[i]?=some x) (hx:Loc X.env.scope x) (he:SE X e ma) (hs:swapsWith e (some (.Name x pos')) pos.line X.env=pure false:=by kernel_rfl)
  (hf:X.fn x=true∨X.env.scope.names.lookup x=some .local:=by first | exact .inl rfl | exact .inr rfl | assumption):SS X (.Assign [.Name x pos'] e pos) (aU i ma):=(ve hN hi hx he hs hf).imp fun _ _ _=>qm
theorem se {i:Nat} {x:Str} (hN:X.N.Nodup) (hi:X.N[i]?=some x) (hx:Loc X.env.scope x) (hf:X.fn x=true∨X.env.scope.names.lookup x=some .local:=by first | exact .inl rfl | exact .inr rfl | assumption):SG X (.Name x pos) (gN i):=
 (sT hN hi hx hf).imp fun v σ H Q ⟨ρ,δ,h,d,δ',h',R,S,r,e,k⟩=>by
  cases e
  exact k ρ H _ (.refl _ _) S (R.set r i)
inductive TMGsi (K:PySem.W.Frag) (m:GMs) (vs:List V) (σ:L2.St) (H:Hp) (Q:L2.St→Hp→Prop):Prop where
 | mk (ρ δ h ds δ' h'):RepS K ρ H σ δ→Sim K ρ h H→RepL K ρ H vs ds→(m ds δ h=some (δ',h'))→(∀ρ' H' σ',Stp ρ H ρ' H'→Sim K ρ' h' H'→RepS K ρ' H' σ' δ'→Q σ' H')→TMGsi K m vs σ H Q
def yg (K:PySem.W.Frag) (m:GMs):TGs:=fun vs σ H Q=>TMGsi K m vs σ H Q
def SGs (X:Cx) (es:List Expr) (m:GMs):Prop:=PGs X es (yg X.K m)
theorem _root_.L2.PGs.imp {X:Cx} {e:List Expr} {t t':TGs} (h:PGs X e t) (i:∀v σ H Q,t' v σ H Q→t v σ H Q):PGs X e t':=fun pins s σ H v u Q I r q=>h pins s σ H v u Q I r (i v σ H Q q)
theorem fh:SGs X [] gY:=sS.imp fun v σ H Q ⟨ρ,δ,h,d,δ',h',R,S,r,e,k⟩=>by
 cases r with
 | nil=>cases e;exact ⟨rfl,k ρ H σ (.refl _ _) S R⟩
 | cons _ _=>cases e
theorem bN (h1:SG X e g) (h2:SGs X es gs) (hs:(assignEach (e::es) X.env).map (·.2)=assign e X.env::(assignEach es X.env).map (·.2):=by kernel_rfl):SGs X (e::es) (cw g gs):=(qA h1 h2 hs).imp fun v σ H Q ⟨ρ,δ,h,d,δ',h',R,S,r,e,k⟩=>by
 cases r with
 | nil=>cases e
 | cons r rs=>
  obtain ⟨⟨δ1,h1⟩,e1,e2⟩:=bnd e
  exact ⟨_,_,rfl,ρ,δ,h,_,δ1,h1,R,S,r,e1,fun ρ1 H1 σ1 T1 S1 R1=>⟨ρ1,δ1,h1,_,δ',h',R1,S1,rs.mono T1,e2,fun ρ2 H2 σ2 T2 S2 R2=>k ρ2 H2 σ2 (T1.trans T2) S2 R2⟩⟩
theorem gC {k0:Nat} {n:Nat} (hc:X.calm=true) (h:SGs X es gs) (hn:(assignEach es X.env).length=n:=by kernel_rfl) (hst:(assignEach es X.env).findIdx? (·.1)=none:=by kernel_rfl):SG X (.Tuple es k0 pos) (gT n gs):=
 (vj hc h hn hst).imp fun v σ H Q ⟨ρ,δ,h,d,δ',h',R,S,r,e,k⟩=>by
  cases r <;> first | (exact absurd e (by intro z;cases z)) | skip
  rename_i a vs ds ht l _
  unfold gT at e
  dsimp only at e
  by_cases z:ds.length=n
  ·rw [if_pos z] at e
   exact ⟨a,vs,rfl,ht.sq,by rw [l.length];exact z,ρ,δ,h,ds,δ',h',R,S,l,e,k⟩
  ·rw [if_neg z] at e;cases e
theorem dw (he:SE X e ma) (hg:SG X tg g) (hs:swapsWithSole [tg] e pos.line X.env=pure false:=by kernel_rfl) (hw:swappedStores [tg] e X.env=pure none:=by kernel_rfl)
  (h1:(assignEach [tg] X.env).map (·.2)=[assign tg X.env]:=by kernel_rfl):SS X (.Assign [tg] e pos) (g8 ma g):=(vh he hg hs hw h1).imp fun E σ H ⟨ρ,δ,h,fl,δ',h',R,S,e,k⟩=>by
 obtain ⟨⟨x,h1⟩,e1,e2⟩:=bnd e
 obtain ⟨⟨δ2,h2⟩,e4,e3⟩:=bnd e2
 cases e3
 exact ⟨ρ,δ,h,x,h1,R,S,e1,fun v H1 ⟨ρ1,T1,S1,r1⟩=>⟨ρ1,δ,h1,x,_,_,R.mono T1,S1,r1,e4,fun ρ2 H2 σ2 T2 S2 R2=>k ρ2 H2 (T1.trans T2) S2 σ2 R2⟩⟩
theorem fU (he:SE X e ma) (hs:swapsWith e none pos.line X.env=pure false:=by kernel_rfl):SS X (.Expr e pos) (iE ma):=(sL he hs).imp fun E σ H ⟨ρ,δ,h,fl,δ',h',R,S,e,k⟩=>by
 obtain ⟨⟨x,h1⟩,e1,e2⟩:=bnd e
 cases e2
 exact ⟨ρ,δ,h,x,h1,R,S,e1,fun v H1 ⟨ρ1,T1,S1,r1⟩=>k ρ1 H1 T1 S1 σ (R.mono T1)⟩
theorem aJ (he:SE X e ma):SS X (.Return (some e) pos) (bH ma):=(vf he).imp fun E σ H ⟨ρ,δ,h,fl,δ',h',R,S,e,k⟩=>by
 obtain ⟨⟨x,h1⟩,e1,e2⟩:=bnd e
 cases e2
 exact ⟨ρ,δ,h,x,h1,R,S,e1,fun v H1 ⟨ρ1,T1,S1,r1⟩=>k ρ1 H1 T1 S1 v r1⟩
theorem bI {sa sb:List Stmt} (hc:ST X c mt) (ha:SSs X sa ms) (hb:SSs X sb mu):SS X (.If c sa sb pos) (sIf mt ms mu):=(xE hc ha hb).imp fun E σ H ⟨ρ,δ,h,fl,δ',h',R,S,e,k⟩=>by
 obtain ⟨⟨x,h1⟩,e1,e2⟩:=bnd e
 refine ⟨ρ,δ,h,x,h1,R,S,e1,fun ρ1 H1 T1 S1=>?_⟩
 cases x with
 | true=>rw [if_pos rfl] at e2 ⊢;exact ⟨ρ1,δ,h1,fl,δ',h',R.mono T1,S1,e2,fun ρ2 H2 T2 S2=>k ρ2 H2 (T1.trans T2) S2⟩
 | false=>rw [if_neg (by simp)] at e2 ⊢;exact ⟨ρ1,δ,h1,fl,δ',h',R.mono T1,S1,e2,fun ρ2 H2 T2 S2=>k ρ2 H2 (T1.trans T2) S2⟩
structure ItS (K:PySem.W.Frag) (J:It) (ρ:Ad) (H:Hp) (ws:W) (xs:List D):Prop where
 run:∀ρ1 H1 h1,Ch ρ H ρ1 H1→Sim K ρ1 h1 H1→chk ws h1=true→∀i:Nat,(xs.length≤i→J.stop i H1)∧∀x,xs[i]?=some x→J.go i H1∧∀v H2,J.yld i H1 v H2→Stp ρ1 H1 ρ1 H2∧Sim K ρ1 h1 H2∧Rep K ρ1 H2 v x
inductive TMIi (K:PySem.W.Frag) (m:IM) (σ:L2.St) (H:Hp) (R:It→Hp→Prop):Prop where
 | mk (ρ δ h xs ws h'):RepS K ρ H σ δ→Sim K ρ h H→(m δ h=some (xs,ws,h'))→(∀J ρ1 H1,Stp ρ H ρ1 H1→Sim K ρ1 h' H1→ItS K J ρ1 H1 ws xs→R J H1)→TMIi K m σ H R
def tMI (K:PySem.W.Frag) (m:IM):TI:=fun σ H R=>TMIi K m σ H R
def SI (X:Cx) (tg iter:Expr) (m:IM):Prop:=PI X tg iter (tMI X.K m)
theorem _root_.L2.PI.imp {X:Cx} {tg e:Expr} {t t':TI} (h:PI X tg e t) (i:∀σ H Q,t' σ H Q→t σ H Q):PI X tg e t':=fun pins s σ H R I q=>h pins s σ H R I (i σ H R q)
theorem uQ {E:Ends} {σ:St} {H:Hp} {mi:IM} (hh:tMS X.K (jv mi g ms) E σ H):w6 (tMI X.K mi) (tMG X.K g) (tMS X.K ms) E σ H:=by
 obtain ⟨ρ,δ,h,fl,δ',h',R,S,e,k⟩:=hh
 obtain ⟨⟨xs,ws,h1⟩,e1,e2⟩:=bnd e
 refine ⟨ρ,δ,h,xs,ws,h1,R,S,e1,fun J ρ1 H1 T1 S1 It=>?_⟩
 refine ⟨fun i m σ2 H2=>∃ρ2 δ2 h2,m=xs.length-i∧i≤xs.length∧Stp ρ1 H1 ρ2 H2∧RepS X.K ρ2 H2 σ2 δ2∧Sim X.K ρ2 h2 H2∧gi ws g ms (xs.drop i) δ2 h2=some (fl,δ',h'),⟨_,ρ1,δ,h1,rfl,Nat.zero_le _,.refl _ _,R.mono T1,S1,e2⟩,?_⟩
 rintro i m σ2 H2 ⟨ρ2,δ2,h2,rfl,hi,T2,R2,S2,e3⟩
 cases q:xs.drop i with
 | nil=>
  rw [q] at e3
  unfold gi at e3
  by_cases hc:chk ws h2=true
  ·rw [if_pos hc] at e3
   cases e3
   have hl:xs.length≤i:=by have:=congrArg List.length q;rw [List.length_drop,List.length_nil] at this;omega
   exact .inl ⟨(It.run ρ2 H2 _ T2 S2 hc i).1 hl,k ρ2 H2 (T1.trans T2) S2 σ2 R2⟩
  ·rw [if_neg hc] at e3;cases e3
 | cons x r=>
  rw [q] at e3
  unfold gi at e3
  by_cases hc:chk ws h2=true
  ·rw [if_pos hc] at e3
   have hx:xs[i]?=some x:=by
    have:=congrArg (fun l=>l[0]?) q
    simpa using this
   have hlt:i < xs.length:=(List.getElem?_eq_some_iff.mp hx).1
   have hr:xs.drop (i+1)=r:=by
    have:=congrArg List.tail q
    simpa using this
   obtain ⟨⟨δ3,h3⟩,e4,e5⟩:=bnd e3
   obtain ⟨⟨f4,δ4,h4⟩,e6,e7⟩:=bnd e5
   obtain ⟨hgo,hy⟩:=(It.run ρ2 H2 h2 T2 S2 hc i).2 x hx
   have NN:∀ρ5 H5 σ5,Stp ρ2 H2 ρ5 H5→Sim X.K ρ5 h4 H5→RepS X.K ρ5 H5 σ5 δ4→gi ws g ms r δ4 h4=some (fl,δ',h')→
     ∃m',m' < xs.length-i∧(∃ρ2 δ2 h2,m'=xs.length-(i+1)∧i+1≤xs.length∧Stp ρ1 H1 ρ2 H5∧RepS X.K ρ2 H5 σ5 δ2∧Sim X.K ρ2 h2 H5∧gi ws g ms (xs.drop (i+1)) δ2 h2=some (fl,δ',h')):=
    fun ρ5 H5 σ5 T5 S5 R5 e8=>⟨xs.length-(i+1),by omega,ρ5,δ4,h4,rfl,hlt,T2.trans T5,R5,S5,by rw [hr];exact e8⟩
   refine .inr ⟨hgo,fun σ5 H5=>∃ρ5,Stp ρ2 H2 ρ5 H5∧Sim X.K ρ5 h4 H5∧RepS X.K ρ5 H5 σ5 δ4∧gi ws g ms r δ4 h4=some (fl,δ',h'),fun σ5 H5 ⟨ρ5,T5,S5,R5,e8⟩=>NN ρ5 H5 σ5 T5 S5 R5 e8,fun v H3 y3=>?_⟩
   obtain ⟨T3,S3,r3⟩:=hy v H3 y3
   refine ⟨ρ2,δ2,h2,x,δ3,h3,R2.mono T3,S3,r3,e4,fun ρ4 H4 σ4 T4 S4 R4=>?_⟩
   refine ⟨ρ4,δ3,h3,f4,δ4,h4,R4,S4,e6,fun ρ5 H5 T5 S5=>?_⟩
   have T25:Stp ρ2 H2 ρ5 H5:=T3.trans (T4.trans T5)
   cases f4 with
   | nx=>exact fun σ' R'=>⟨ρ5,T25,S5,R',e7⟩
   | ct=>exact fun σ' R'=>⟨ρ5,T25,S5,R',e7⟩
   | bk=>cases e7;exact fun σ' R'=>k ρ5 H5 (T1.trans (T2.trans T25)) S5 σ' R'
   | rt d=>cases e7;exact fun v r=>k ρ5 H5 (T1.trans (T2.trans T25)) S5 v r
  ·rw [if_neg hc] at e3;cases e3
theorem fB {body:List Stmt} {mi:IM} (hp:PassesOwn (model X.prog X.w) X.A X.env X.xe) (hc:X.calm=true) (hi:SI X tg iter mi) (hg:SG X tg g) (hb:SSs X body ms) (hs:∀x,foldedSetIterable iter X.env x=pure x:=by intro _;kernel_rfl):SS X (.For tg iter body [] pos) (jv mi g ms):=
 (vg hp hc hi hg hb hs).imp fun _ _ _=>uQ
end
end Sm
namespace L2
open PySem PySem.Spec PyProof.Rows
theorem vi {X:Cx} {tg:Expr} {l:Expr} {tl:TE} (hl:PE X l tl):PI X tg l (fun σ H R=>tl σ H fun x H1=>∃a,x=.ref a∧(((∃xs,SqL X.K H1 a xs)∧R (Itl X.K a) H1)∨((∃xs,SqT X.K H1 a xs)∧R (Itt X.K a) H1))):=by
 intro pins s σ H R I h
 refine thn (hl pins s σ H _ I h) fun v s1 ⟨x,H1,I1,r1,q1⟩=>?_
 obtain ⟨a,e,q1⟩:=q1
 subst e
 cases r1
 rcases q1 with ⟨⟨xs,hq⟩,q⟩ | ⟨⟨xs,hq⟩,q⟩
 ·obtain ⟨its,rv,p,hz⟩:=I1.list hq
  refine wpAny_pyIter_list p.isList ?_
  refine ⟨s1.heap.objs.size,[s1.heap.objs.size],_,_,H1,rfl,I1.kept (t':=s1.toks) fun b o e=>Heap.get?_push_of_some _ e,o2 a _,⟨_,Heap.get?_push_size _ rfl,rfl,rfl⟩,fun b hb=>?_,q⟩
  have e:b=s1.heap.objs.size:=by simpa using hb
  subst e
  exact I1.lG (Nat.le_refl _) (I1.hok.fresh (Nat.le_refl _))
 ·obtain ⟨its,rv,p,hz⟩:=I1.tuple hq
  refine wpAny_pyIter_tuple (show s1.heap.IsTuple a its.toArray from p) ?_
  refine ⟨s1.heap.objs.size,[s1.heap.objs.size],_,_,H1,rfl,I1.kept (t':=s1.toks) fun b o e=>Heap.get?_push_of_some _ e,nz a _,⟨_,Heap.get?_push_size _ rfl,rfl,rfl⟩,fun b hb=>?_,q⟩
  have e:b=s1.heap.objs.size:=by simpa using hb
  subst e
  exact I1.lG (Nat.le_refl _) (I1.hok.fresh (Nat.le_refl _))
end L2
namespace Sm
open PySem L2
def bY (d:D) (h:MH):Option (List D×W):=match d with
 | .lv xs=>some (xs,[])
 | .ro xs=>some (xs,[])
 | .tup xs=>some (xs,[])
 | .ob n=>match h[n]? with
  | some (.lst xs)=>some (xs,[(n,.lst xs)])
  | _=>none
 | _=>none
def jG (e:EM):IM:=fun δ h=>(e δ h).bind fun p=>(bY p.1 p.2).map fun q=>(q.1,q.2,p.2)
def i7 (m:AM):IM:=fun δ h=>(m δ h).bind fun p=>match p.1 with
 | [.int j]=>if -(2^62)≤j∧j < 2^62 then some ((List.range j.toNat).map fun (k:Nat)=>D.int (k:Int),[],p.2) else none
 | [.int i,.int j]=>if -(2^62)≤i∧i < 2^62∧-(2^62)≤j∧j < 2^62 then some ((List.range (j-i).toNat).map fun (k:Nat)=>D.int (i+(k:Int)),[],p.2) else none
 | _=>none
section
variable {K:PySem.W.Frag} {ρ:Ad} {H:Hp} {h:MH} {a:Addr} {vs:List V} {xs:List D}
theorem nQ {J:It} {ws:W} (hl:∀ρ1 H1 h1,Ch ρ H ρ1 H1→Sim K ρ1 h1 H1→chk ws h1=true→∃vs,RepL K ρ1 H1 vs xs∧(∀i:Nat,vs.length≤i→J.stop i H1)∧∀(i:Nat) v,vs[i]?=some v→J.go i H1∧∀u H2,J.yld i H1 u H2→H2=H1∧u=v):ItS K J ρ H ws xs:=by
 refine ⟨fun ρ1 H1 h1 T S hc i=>?_⟩
 obtain ⟨vs,l,s1,s2⟩:=hl ρ1 H1 h1 T S hc
 refine ⟨fun hi=>s1 i (by rw [l.length];exact hi),fun x hx=>?_⟩
 obtain ⟨v,hv,r⟩:=l.got hx
 obtain ⟨g,y⟩:=s2 i v hv
 refine ⟨g,fun u H2 yy=>?_⟩
 obtain ⟨rfl,rfl⟩:=y u H2 yy
 exact ⟨.refl _ _,S,r⟩
theorem we {ws:W} (hl:∀ρ1 H1 h1,Ch ρ H ρ1 H1→Sim K ρ1 h1 H1→chk ws h1=true→∃vs,RepL K ρ1 H1 vs xs∧SqL K H1 a vs):ItS K (Itl K a) ρ H ws xs:=
 nQ fun ρ1 H1 h1 T S hc=>by
  obtain ⟨vs,l,q⟩:=hl ρ1 H1 h1 T S hc
  refine ⟨vs,l,fun i hi=>⟨vs,q,hi⟩,fun i v hv=>⟨⟨vs,v,q,hv⟩,fun u H2 ⟨e,y⟩=>⟨e,?_⟩⟩⟩
  have:=y vs q
  rw [hv] at this
  exact (Option.some.inj this).symm
theorem wb {ws:W} (hl:∀ρ1 H1 h1,Ch ρ H ρ1 H1→Sim K ρ1 h1 H1→chk ws h1=true→∃vs,RepL K ρ1 H1 vs xs∧SqT K H1 a vs):ItS K (Itt K a) ρ H ws xs:=
 nQ fun ρ1 H1 h1 T S hc=>by
  obtain ⟨vs,l,q⟩:=hl ρ1 H1 h1 T S hc
  refine ⟨vs,l,fun i hi=>⟨vs,q,hi⟩,fun i v hv=>⟨⟨vs,v,q,hv⟩,fun u H2 ⟨e,y⟩=>⟨e,?_⟩⟩⟩
  have:=y vs q
  rw [hv] at this
  exact (Option.some.inj this).symm
theorem tX {n:Nat} {o:MO} {h:MH} (hc:chk [(n,o)] h=true):h[n]?=some o:=by
 unfold chk at hc
 cases q:h[n]? with
 | none=>rw [q] at hc;cases hc
 | some u=>
  rw [q] at hc
  simp [chk] at hc
  rw [oW hc]
inductive SeqAt (K:PySem.W.Frag) (H:Hp) (a:Addr) (vs:List V):Bool→Prop where
 | l:SqL K H a vs→SeqAt K H a vs true
 | t:SqT K H a vs→SeqAt K H a vs false
def iZ:D→Bool
 | .tup _=>false
 | _=>true
theorem dO {v:V} {d:D} {ws:W} (S:Sim K ρ h H) (r:Rep K ρ H v d) (e:bY d h=some (xs,ws)):∃a,v=.ref a∧(∃vs,SeqAt K H a vs (iZ d)∧RepL K ρ H vs xs)∧
  ∀ρ1 H1 h1,Ch ρ H ρ1 H1→Sim K ρ1 h1 H1→chk ws h1=true→∃vs,RepL K ρ1 H1 vs xs∧SeqAt K H1 a vs (iZ d):=by
 cases r with
 | tup ht l=>
  cases e
  refine ⟨_,rfl,⟨_,.t ht.sq,l⟩,fun ρ1 H1 h1 T S1 _=>?_⟩
  cases (Rep.tup ht l).mono T with
  | tup h1 l1=>exact ⟨_,l1,.t h1.sq⟩
 | lv ht n l=>
  cases e
  refine ⟨_,rfl,⟨_,.l (SqL.of ht),l⟩,fun ρ1 H1 h1 T S1 _=>?_⟩
  cases (Rep.lv ht n l).mono T with
  | lv h1 _ l1=>exact ⟨_,l1,.l (SqL.of h1)⟩
 | ro ht l=>
  cases e
  refine ⟨_,rfl,⟨_,.l ht.sq,l⟩,fun ρ1 H1 h1 T S1 _=>?_⟩
  cases (Rep.ro ht l).mono T with
  | ro h1 l1=>exact ⟨_,l1,.l h1.sq⟩
 | @ob a n hn=>
  unfold bY at e
  dsimp only at e
  cases q:h[n]? with
  | none=>rw [q] at e;cases e
  | some o=>
   rw [q] at e
   cases o with
   | dct _=>cases e
   | lst ys=>
    cases e
    obtain ⟨vs,e1,l⟩:=S.at_ n a _ hn q
    refine ⟨a,rfl,⟨vs,.l (SqL.of e1),l⟩,fun ρ1 H1 h1 T S1 hc=>?_⟩
    obtain ⟨us,e2,l2⟩:=S1.at_ n a _ (T.pre n a hn) (tX hc)
    exact ⟨us,l2,.l (SqL.of e2)⟩
 | non=>cases e
 | bl b=>cases e
 | int i=>cases e
 | str x=>cases e
 | ty x=>cases e
 | dv _ _ _=>cases e
end
section
variable {X:Cx} {a b c e tg iter:Expr} {es:List Expr} {pos:Pos} {ma mb:EM} {mt:TM} {ms mu:SM} {m:AM} {g:GM} {gs:GMs}
theorem eN (h:SE X e ma):SI X tg e (jG ma):=(vi h).imp fun σ H Q ⟨ρ,δ,h,xs,ws,h',R,S,e,k⟩=>by
 obtain ⟨⟨x,h1⟩,e1,e2⟩:=bnd e
 obtain ⟨⟨ys,w⟩,e3,e4⟩:=mpd e2
 cases e4
 refine ⟨ρ,δ,h,x,h1,R,S,e1,fun v H1 ⟨ρ1,T1,S1,r1⟩=>?_⟩
 obtain ⟨a,rfl,⟨vs,q,l⟩,st⟩:=dO S1 r1 e3
 refine ⟨a,rfl,?_⟩
 generalize iZ x=b at q st
 cases q with
 | l q=>exact .inl ⟨⟨vs,q⟩,k _ ρ1 H1 T1 S1 (we fun ρ2 H2 h2 T2 S2 hc=>by obtain ⟨us,l2,q2⟩:=st ρ2 H2 h2 T2 S2 hc;cases q2 with | l q2=>exact ⟨us,l2,q2⟩)⟩
 | t q=>exact .inr ⟨⟨vs,q⟩,k _ ρ1 H1 T1 S1 (wb fun ρ2 H2 h2 T2 S2 hc=>by obtain ⟨us,l2,q2⟩:=st ρ2 H2 h2 T2 S2 hc;cases q2 with | t q2=>exact ⟨us,l2,q2⟩)⟩
theorem gG {K:PySem.W.Frag} {ρ:Ad} {H:Hp}:∀(ns:List Int),RepL K ρ H (ns.map V.int) (ns.map D.int)
 | []=>.nil
 | _::r=>.cons (.int _) (gG r)
theorem wc {K:PySem.W.Frag} {ρ:Ad} {H:Hp} (lo:Int) (n:Nat):ItS K (Itr lo n) ρ H [] ((List.range n).map fun (k:Nat)=>D.int (lo+(k:Int))):=by
 refine nQ fun ρ1 H1 h1 T S hc=>⟨(List.range n).map fun (k:Nat)=>V.int (lo+(k:Int)),?_,fun i hi=>?_,fun i v hv=>?_⟩
 ·have:=gG (K:=K) (ρ:=ρ1) (H:=H1) ((List.range n).map fun (k:Nat)=>lo+(k:Int))
  rw [List.map_map,List.map_map] at this
  exact this
 ·rw [List.length_map,List.length_range] at hi;exact hi
 ·rw [List.getElem?_map] at hv
  obtain ⟨j,e1,e2⟩:=mpd hv
  obtain ⟨hlt,e3⟩:=List.getElem?_eq_some_iff.mp e1
  rw [List.length_range] at hlt
  rw [List.getElem_range] at e3
  subst e3;subst e2
  exact ⟨hlt,fun u H2 ⟨p,q⟩=>⟨p,q⟩⟩
theorem pd {K:PySem.W.Frag} {ρ:Ad} {H:Hp} {vs:List V} {j:Int} (l:RepL K ρ H vs [.int j]):vs=[.int j]:=by
 cases l with
 | cons r l=>cases l;cases r;rfl
theorem bX {p:Pos} (hg:Gl X "range") (hm:X.mg "range"=none) (ha:SA X [a] m) (hs:starEach [a] X.env=[(false,eval a X.env)]:=by kernel_rfl) (hl:gv m 1):SI X tg (.Call (.Name "range" p) [a] [] pos) (i7 m):=
 (pf hg hm ha hs).imp fun σ H Q ⟨ρ,δ,h,xs,ws,h',R,S,e,k⟩=>by
  obtain ⟨⟨x,h1⟩,e1,e2⟩:=bnd e
  refine ⟨ρ,δ,h,x,h1,R,S,e1,fun vs ρ1 H1 T1 S1 r1=>?_⟩
  match x,hl _ _ _ _ e1,e2,r1 with
  | [d],hl1,e2,r1=>
   cases d <;> first | exact absurd e2 (by intro z;cases z) | skip
   rename_i j
   dsimp only at e2
   by_cases z:-(2^62)≤j∧j < 2^62
   ·rw [if_pos z] at e2
    cases e2
    refine ⟨j,pd r1,z.1,z.2,k _ ρ1 H1 T1 S1 ?_⟩
    have:=wc (K:=X.K) (ρ:=ρ1) (H:=H1) 0 j.toNat
    simpa using this
   ·rw [if_neg z] at e2;cases e2
def kl (caps:List (Option Nat)) (δ:DS):DS:=caps.map fun o=>o.bind fun i=>(δ[i]?).join
def fA:TM:=fun _ h=>some (true,h)
def b0 (ws:W) (g:GM) (c:TM) (e:EM):List D→DS→MH→Option (List D×MH)
 | [],_,h=>if chk ws h then some ([],h) else none
 | x::r,δ,h=>if chk ws h then (g x δ h).bind fun q=>(c q.1 q.2).bind fun t=>if t.1 then (e q.1 t.2).bind fun y=>(b0 ws g c e r q.1 y.2).map fun z=>(y.1::z.1,z.2) else b0 ws g c e r q.1 t.2 else none
def de (caps:List (Option Nat)) (i:IM) (g:GM) (c:TM) (e:EM):AM:=fun δ h=>(i δ h).bind fun p=>(b0 p.2.1 g c e p.1 (kl caps δ) p.2.2).bind fun q=>if q.1.length≤sizeLine then some q else none
theorem RepS.jJ {K:PySem.W.Frag} {ρ:Ad} {H:Hp} {σ:St} {δ:DS} (R:RepS K ρ H σ δ) (caps:List (Option Nat)):RepS K ρ H (jJ caps σ) (kl caps δ):=by
 refine ⟨by simp [L2.jJ,kl],fun i d hd=>?_⟩
 unfold kl at hd
 rw [List.getElem?_map] at hd
 obtain ⟨o,e1,e2⟩:=mpd hd
 cases o with
 | none=>cases e2
 | some j=>
  have e3:δ[j]?=some (some d):=Option.join_eq_some_iff.mp e2
  obtain ⟨v,ev,r⟩:=R.at_ j d e3
  refine ⟨v,?_,r⟩
  unfold L2.jJ
  rw [List.getElem?_map,e1]
  simp [ev]
def SIf (X:Cx) (ifs:List Expr) (m:TM):Prop:=PIf X ifs (tMT X.K m)
theorem dh:SIf X [] fA:=fun pins s σ H Q I hh=>by
 obtain ⟨ρ,δ,h,b,h',R,S,e,k⟩:=hh
 cases e
 exact sQ pins s σ H Q I (k ρ H (.refl _ _) S)
theorem kK (h:ST X c mt):SIf X [c] mt:=sP h
theorem oH {caps:List (Option Nat)} {mi:IM} {σ:St} {H:Hp} {Q:VK} (hh:tM X.K (eLv (de caps mi g mt ma)) σ H Q):p7 caps (tMI X.K mi) (tMG X.K g) (tMT X.K mt) (tM X.K ma) σ H Q:=by
 obtain ⟨ρ,δ,h,d,h',R,S,ee,k⟩:=hh
 obtain ⟨⟨out,h0⟩,ea,e0⟩:=mpd ee
 cases e0
 obtain ⟨⟨xs,ws,h1⟩,e1,eb⟩:=bnd ea
 obtain ⟨⟨ys,h2⟩,e2,e3⟩:=bnd eb
 dsimp only at e2 e3
 by_cases hz:ys.length≤sizeLine
 ·rw [if_pos hz] at e3
  cases e3
  refine ⟨ρ,δ,h,xs,ws,h1,R,S,e1,fun J ρ1 H1 T1 S1 It l hl=>?_⟩
  have nl:¬ρ1.has l:=S1.fresh hl
  have Tl:Ch ρ1 H1 (ρ1.keep l) (upd H1 l (.lst [])):=Ch.keep hl
  refine ⟨fun i m τ2 H2=>∃(ob2:List Addr) (δ2:DS) (h2:MH) (vs:List V) (as bs:List D),m=xs.length-i∧i≤xs.length∧Ch ρ1 H1 ⟨ob2,l::ρ1.rs⟩ H2∧(∀b∈ρ1.rs,H2 b=H1 b)∧RepS X.K ⟨ob2,l::ρ1.rs⟩ H2 τ2 δ2∧Sim X.K ⟨ob2,l::ρ1.rs⟩ h2 H2∧
    H2 l=some (.lst vs)∧RepL X.K ⟨ob2,l::ρ1.rs⟩ H2 vs as∧out=as++bs∧b0 ws g mt ma (xs.drop i) δ2 h2=some (bs,h0),
   ⟨_,ρ1.ob,kl caps δ,h1,[],[],out,rfl,Nat.zero_le _,Tl,fun b hb=>av fun z=>nl (.inr (z ▸ hb)),((R.mono T1).jJ caps).mono Tl,S1.keep hl,aN,.nil,rfl,e2⟩,?_⟩
  rintro i m τ2 H2 ⟨ob2,δ2,h2,vs,as,bs,rfl,hi,T2,rs2,R2,S2,hl2,l2,eo,e3⟩
  have hsub:∀b∈ρ1.rs,b∈l::ρ1.rs:=fun b hb=>List.mem_cons_of_mem _ hb
  have C2:Ch ⟨ob2,l::ρ1.rs⟩ H2 ⟨ob2,ρ1.rs⟩ H2:=Ch.free hsub
  have T2':Stp ρ1 H1 ⟨ob2,ρ1.rs⟩ H2:=⟨T2.trans C2,rfl,rs2⟩
  have S2':Sim X.K ⟨ob2,ρ1.rs⟩ h2 H2:=S2.free hsub
  cases q:xs.drop i with
  | nil=>
   rw [q] at e3
   unfold b0 at e3
   by_cases hc:chk ws h2=true
   ·rw [if_pos hc] at e3
    cases e3
    rw [List.append_nil] at eo
    subst eo
    have hle:xs.length≤i:=by have:=congrArg List.length q;rw [List.length_drop,List.length_nil] at this;omega
    refine .inl ⟨(It.run _ H2 _ T2 S2 hc i).1 hle,k _ _ ⟨_,T1.trans T2',S2',.lv hl2 (fun z=>?_) (l2.mono C2)⟩⟩
    rcases z with z | z
    ·exact (S2.rsv l List.mem_cons_self).2 z
    ·exact nl (.inr z)
   ·rw [if_neg hc] at e3;cases e3
  | cons x r=>
   rw [q] at e3
   unfold b0 at e3
   by_cases hc:chk ws h2=true
   ·rw [if_pos hc] at e3
    have hx:xs[i]?=some x:=by
     have:=congrArg (fun l=>l[0]?) q
     simpa using this
    have hlt:i < xs.length:=(List.getElem?_eq_some_iff.mp hx).1
    have hr:xs.drop (i+1)=r:=by
     have:=congrArg List.tail q
     simpa using this
    obtain ⟨⟨δ3,h3⟩,e4,e5⟩:=bnd e3
    obtain ⟨⟨t,h4⟩,e6,e7⟩:=bnd e5
    dsimp only at e4 e5 e6 e7
    obtain ⟨hgo,hy⟩:=(It.run _ H2 h2 T2 S2 hc i).2 x hx
    refine .inr ⟨hgo,fun τ5 H5=>∃(ob5:List Addr) (h5:MH) (vs:List V) (as bs:List D),Ch ρ1 H1 ⟨ob5,l::ρ1.rs⟩ H5∧(∀b∈ρ1.rs,H5 b=H1 b)∧RepS X.K ⟨ob5,l::ρ1.rs⟩ H5 τ5 δ3∧Sim X.K ⟨ob5,l::ρ1.rs⟩ h5 H5∧
     H5 l=some (.lst vs)∧RepL X.K ⟨ob5,l::ρ1.rs⟩ H5 vs as∧out=as++bs∧b0 ws g mt ma r δ3 h5=some (bs,h0),?_,?_⟩
    ·rintro τ5 H5 ⟨ob5,h5,vs5,as5,bs5,T5,rs5,R5,S5,hl5,l5,eo5,e5⟩
     exact ⟨xs.length-(i+1),by omega,ob5,δ3,h5,vs5,as5,bs5,rfl,hlt,T5,rs5,R5,S5,hl5,l5,eo5,by rw [hr];exact e5⟩
    ·intro v H3 y3
     obtain ⟨T3,S3,r3⟩:=hy v H3 y3
     refine ⟨⟨ob2,l::ρ1.rs⟩,δ2,h2,x,δ3,h3,R2.mono T3,S3,r3,e4,fun ρ4 H4 τ4 T4 S4 R4=>?_⟩
     refine ⟨ρ4,δ3,h3,t,h4,R4,S4,e6,fun ρ5 H5 T5 S5=>?_⟩
     have T25:Stp ⟨ob2,l::ρ1.rs⟩ H2 ρ5 H5:=T3.trans (T4.trans T5)
     obtain ⟨ob5,rs5⟩:=ρ5
     have ers:rs5=l::ρ1.rs:=T25.rs
     subst ers
     cases t with
     | false=>
      rw [if_neg (by simp)] at e7
      refine yU ?_
      exact ⟨ob5,h4,vs,as,bs,T2.trans T25.toCh,fun b hb=>(T25.res b (hsub b hb)).trans (rs2 b hb),R4.mono T5,S5,(T25.res l List.mem_cons_self).trans hl2,l2.mono T25.toCh,eo,e7⟩
     | true=>
      rw [if_pos rfl] at e7
      refine yT ?_
      obtain ⟨⟨y,h6⟩,e8,e9⟩:=bnd e7
      obtain ⟨⟨zs,h7⟩,e10,e11⟩:=mpd e9
      cases e11
      refine ⟨⟨ob5,l::ρ1.rs⟩,δ3,h4,y,h6,R4.mono T5,S5,e8,fun u H6 ⟨ρ6,T6,S6,r6⟩=>?_⟩
      have T26:Stp ⟨ob2,l::ρ1.rs⟩ H2 ρ6 H6:=T25.trans T6
      obtain ⟨ob6,rs6⟩:=ρ6
      have ers:rs6=l::ρ1.rs:=T26.rs
      subst ers
      have hl6:H6 l=some (.lst vs):=(T26.res l List.mem_cons_self).trans hl2
      have hml:l∈(⟨ob6,l::ρ1.rs⟩:Ad).rs:=List.mem_cons_self
      have hlen:vs.length < sizeLine:=by
       have h1:=l2.length
       have h2:=congrArg List.length eo
       rw [List.length_append,List.length_cons] at h2
       omega
      have Cp:Ch ⟨ob6,l::ρ1.rs⟩ H6 ⟨ob6,l::ρ1.rs⟩ (upd H6 l (.lst (vs++[u]))):=Ch.put hml
      refine ⟨vs,hl6,hlen,ob6,h6,vs++[u],as++[y],zs,(T2.trans T26.toCh).trans Cp,fun b hb=>?_,((R4.mono T5.toCh).mono T6.toCh).mono Cp,S6.put hml,aN,((l2.mono T26.toCh).snoc r6).mono Cp,by rw [eo];simp,e10⟩
      rw [av (fun (z:b=l)=>nl (.inr (z ▸ hb)))]
      exact (T26.res b (hsub b hb)).trans (rs2 b hb)
   ·rw [if_neg hc] at e3;cases e3
 ·rw [if_neg hz] at e3;cases e3
end
end Sm
namespace Sm
open PySem L2 PySem.Spec PyProof.Rows
section
variable {X:Cx} {a b c e tg iter elt:Expr} {es:List Expr} {pos:Pos} {ma mb:EM} {mt:TM} {ms mu:SM} {m:AM} {g:GM} {gs:GMs}
theorem fW {N':List Str} {caps:List (Option Nat)} {scope:Scope} {ifs:List Expr} {mi:IM} (C:CompScope X N' caps scope) (hc:X.calm=true) (hi:SI X tg iter mi) (hg:∀C s₃ H₃ fp pl,SG (blk X N' scope C s₃ H₃ fp pl) tg g)
  (hif:∀C s₃ H₃ fp pl,SIf (blk X N' scope C s₃ H₃ fp pl) ifs mt) (he:∀C s₃ H₃ fp pl,SE (blk X N' scope C s₃ H₃ fp pl) elt ma) (hs:∀x,foldedSetIterable iter X.env x=pure x:=by intro _;kernel_rfl):
  SE X (.ListComp elt [⟨tg,iter,ifs,0⟩] scope pos) (eLv (de caps mi g mt ma)):=(qC (g:=tMG X.K g) (tc:=tMT X.K mt) (te:=tM X.K ma) C hc hi hg hif he hs).imp fun _ _ _=>oH
theorem ff {N':List Str} {caps:List (Option Nat)} {scope:Scope} {ifs:List Expr} {mi:IM} {i:Nat} {y:Str} {py spos:Pos} (hN:X.N.Nodup) (hi':X.N[i]?=some y) (hy:X.env.scope.names.lookup y=some .local) (C:CompScope X N' caps scope) (hc:X.calm=true)
  (hi:SI X tg iter mi) (hg:∀C s₃ H₃ fp pl,SG (blk X N' scope C s₃ H₃ fp pl) tg g) (hif:∀C s₃ H₃ fp pl,SIf (blk X N' scope C s₃ H₃ fp pl) ifs mt) (he:∀C s₃ H₃ fp pl,SE (blk X N' scope C s₃ H₃ fp pl) elt ma)
  (hsw:swapsWith (.ListComp elt [⟨tg,iter,ifs,0⟩] scope pos) (some (.Name y py)) spos.line X.env=pure true:=by kernel_rfl) (hs:∀x,foldedSetIterable iter X.env x=pure x:=by intro _;kernel_rfl):
  SS X (.Assign [.Name y py] (.ListComp elt [⟨tg,iter,ifs,0⟩] scope pos) spos) (aU i (eLv (de caps mi g mt ma))):=
 (qw (g:=tMG X.K g) (tc:=tMT X.K mt) (te:=tM X.K ma) hN hi' hy C hc hi hg hif he hsw hs).imp fun E σ H hh=>by
  have q:=qm hh
  exact oH q
end
inductive SPFi (K:PySem.W.Frag) (n:Nat) (F:Fn) (vs:List V) (H:Hp) (Q:VK):Prop where
 | mk (ρ h ds d h'):Sim K ρ h H→RepL K ρ H vs ds→(ds.length=n)→(F ds h=some (d,h'))→(∀v H',cp K ρ H h' d v H'→Q v H')→SPFi K n F vs H Q
def spF (K:PySem.W.Frag) (n:Nat) (F:Fn):Sp:=fun vs H Q _=>SPFi K n F vs H Q
section
variable {X:Cx} {e:Expr} {es:List Expr} {pos p:Pos} {m:AM} {k n:Nat} {f:Addr} {fd:FuncData} {ps:List Str} {F:Fn} {x:Str}
theorem si (G:FnOk X.prog X.w X.K X.mg X.base CX0 k f fd ps (spF X.K n F)) (hr:Room k X.A) (hg:Gl X x) (hm:X.mg x=some (.ref f)) (hk:PySem.W.keepIn X.K (.ref f)=true) (hb:Binds X.K fd ps [])
  (ha:SA X (e::es) m) (hl:gv m n) (hdb:(x==("__debug__":Str))=false:=by kernel_rfl) (he:starEach (e::es) X.env=(false,eval e X.env)::starEach es X.env:=by kernel_rfl) (hpl:(backTo pos (starEach es X.env)).any (·.1)=false:=by kernel_rfl):
  SE X (.Call (.Name x p) (e::es) [] pos) (eFn F m):=(sX (E:=E0) G hr hg hm hk hb .nil xJ ha hdb he hpl).imp fun σ H Q ⟨ρ,δ,h,d,h',R,S,e,q⟩=>by
 obtain ⟨⟨ds,h1⟩,e1,e2⟩:=bnd e
 refine ⟨ρ,δ,h,ds,h1,R,S,e1,fun vs ρ1 H1 T1 S1 r1=>?_⟩
 show spF X.K n F (vs++[]) H1 Q E0
 rw [List.append_nil]
 exact ⟨ρ1,h1,ds,d,h',S1,r1,hl _ _ _ _ e1,e2,fun v H' P=>q v H' (P.step T1)⟩
end
def so (r:Fl×DS×MH):Option (D×MH):=match r.1 with
 | .rt d=>some (d,r.2.2)
 | .nx=>some (.non,r.2.2)
 | _=>none
def entry (len:Nat) (ds:List D):DS:=ds.map some++List.replicate (len-ds.length) none
def mkF (len:Nat) (body:SM):Fn:=fun ds h=>(body (entry len ds) h).bind so
theorem RepS.entry {K:PySem.W.Frag} {ρ:Ad} {H:Hp} {vs:List V} {ds:List D} (N:List Str) (l:RepL K ρ H vs ds):RepS K ρ H (L2.start N vs) (Sm.entry N.length ds):=by
 refine ⟨by simp [L2.start,Sm.entry,l.length],fun i d hd=>?_⟩
 unfold Sm.entry at hd
 unfold L2.start
 by_cases hi:i < ds.length
 ·rw [List.getElem?_append_left (by simpa using hi),List.getElem?_map] at hd
  obtain ⟨d',e1,e2⟩:=mpd hd
  cases e2
  obtain ⟨v,ev,r⟩:=l.got e1
  refine ⟨v,?_,r⟩
  rw [List.getElem?_append_left (by rw [List.length_map,l.length];exact hi),List.getElem?_map,ev];rfl
 ·rw [List.getElem?_append_right (by simpa using hi),List.getElem?_replicate] at hd
  split at hd <;> cases hd
section
variable {P:Program} {w:World} {K:PySem.W.Frag} {mg:Str→Option Value} {base:Heap} {x qual:Str} {st:Stmt} {f:Addr} {fd:FuncData} {N ps:List Str} {k:Nat}
theorem bE {body:SM} (F:Fun K x qual st f fd) (Sc:FnScope N ps (aD st))
  (hb:∀(cdv:Value) (A:Around) (outer:List Env) (s:Shared) (H:Hp) (E:XK),Room k (A.deeper (envOfC qual (aD st) s.heap.objs.size f cdv))→SSs (og CX0 P w K mg base N qual (aD st) f cdv A outer s H E).nox (eu st) body):
  FnOk P w K mg base CX0 (k+1) f fd ps (spF K ps.length (mkF N.length body)):=by
 refine F.ok Sc (fun vs H Q E h=>?_) (fun cdv A outer s H vs Q E hr h=>?_)
 ·obtain ⟨ρ,h,ds,d,h',S,r,hl,_⟩:=h
  rw [r.length];exact hl
 ·obtain ⟨ρ,h,ds,d,h',S,r,hl,e,q⟩:=h
  refine ⟨_,hb cdv A outer s H E hr,?_⟩
  obtain ⟨⟨fl,δ1,h1⟩,e1,e2⟩:=bnd e
  refine ⟨ρ,entry N.length ds,h,fl,δ1,h1,RepS.entry N r,S,e1,fun ρ1 H1 T1 S1=>?_⟩
  cases fl with
  | nx=>cases e2;exact fun σ' R'=>q _ _ ⟨ρ1,T1,S1,.non⟩
  | rt d=>cases e2;exact fun v r=>q _ _ ⟨ρ1,T1,S1,r⟩
  | bk=>cases e2
  | ct=>cases e2
end
mutual
def clD (n:Nat):D→Bool
 | .tup xs=>clL n xs
 | .lv xs=>clL n xs
 | .ro xs=>clL n xs
 | .dv kvs=>clK n kvs
 | .ob m=>decide (m < n)
 | _=>true
def clL (n:Nat):List D→Bool
 | []=>true
 | x::r=>clD n x&&clL n r
def clK (n:Nat):List (Key×D)→Bool
 | []=>true
 | (_,x)::r=>clD n x&&clK n r
end
def clO (n:Nat):MO→Bool
 | .lst xs=>clL n xs
 | .dct kvs=>clK n kvs
abbrev Ad.cut (ρ:Ad) (n:Nat):Ad:=⟨ρ.ob.take n,ρ.rs⟩
theorem Ad.gp {ρ:Ad} {n:Nat} {a:Addr} (h:(ρ.cut n).has a):ρ.has a:=h.elim (fun m=>.inl (List.mem_of_mem_take m)) .inr
mutual
theorem Rep.cut {K:PySem.W.Frag} {ρ:Ad} {H:Hp} {n:Nat}:∀{v:V} {d:D},Rep K ρ H v d→clD n d=true→Rep K (ρ.cut n) H v d
 | _,_,.non,_=>.non
 | _,_,.bl b,_=>.bl b
 | _,_,.int i,_=>.int i
 | _,_,.str x,_=>.str x
 | _,_,.ty n,_=>.ty n
 | _,_,.tup h l,c=>.tup (h.elim (fun ⟨a,n⟩=>.inl ⟨a,fun m=>n (Ad.gp m)⟩) .inr) (RepL.cut l (by simpa [clD] using c))
 | _,_,.lv h n l,c=>.lv h (fun m=>n (Ad.gp m)) (RepL.cut l (by simpa [clD] using c))
 | _,_,.ro h l,c=>.ro (h.elim (fun ⟨a,n⟩=>.inl ⟨a,fun m=>n (Ad.gp m)⟩) .inr) (RepL.cut l (by simpa [clD] using c))
 | _,_,.dv h n l,c=>.dv h (fun m=>n (Ad.gp m)) (RepK.cut l (by simpa [clD] using c))
 | _,_,.ob (n:=m) e,c=>.ob (by
   have hm:m < n:=by simpa [clD] using c
   show (ρ.ob.take n)[m]?=_
   rw [List.getElem?_take_of_lt hm];exact e)
theorem RepL.cut {K:PySem.W.Frag} {ρ:Ad} {H:Hp} {n:Nat}:∀{v:List V} {d:List D},RepL K ρ H v d→clL n d=true→RepL K (ρ.cut n) H v d
 | _,_,.nil,_=>.nil
 | _,_,.cons r l,c=>by
  simp only [clL,Bool.and_eq_true] at c
  exact .cons (Rep.cut r c.1) (RepL.cut l c.2)
theorem RepK.cut {K:PySem.W.Frag} {ρ:Ad} {H:Hp} {n:Nat}:∀{v:List (Key×V)} {d:List (Key×D)},RepK K ρ H v d→clK n d=true→RepK K (ρ.cut n) H v d
 | _,_,.nil,_=>.nil
 | _,_,.cons r l,c=>by
  simp only [clK,Bool.and_eq_true] at c
  exact .cons (Rep.cut r c.1) (RepK.cut l c.2)
end
mutual
theorem Rep.clean {K:PySem.W.Frag} {ρ:Ad} {H:Hp}:∀{v:V} {d:D},Rep K ρ H v d→clD ρ.ob.length d=true
 | _,_,.non=>rfl
 | _,_,.bl b=>rfl
 | _,_,.int i=>rfl
 | _,_,.str x=>rfl
 | _,_,.ty n=>rfl
 | _,_,.tup h l=>by simp [clD];exact RepL.clean l
 | _,_,.lv h n l=>by simp [clD];exact RepL.clean l
 | _,_,.ro h l=>by simp [clD];exact RepL.clean l
 | _,_,.dv h n l=>by simp [clD];exact RepK.clean l
 | _,_,.ob e=>by simp [clD];exact (List.getElem?_eq_some_iff.mp e).1
theorem RepL.clean {K:PySem.W.Frag} {ρ:Ad} {H:Hp}:∀{v:List V} {d:List D},RepL K ρ H v d→clL ρ.ob.length d=true
 | _,_,.nil=>rfl
 | _,_,.cons r l=>by simp [clL];exact ⟨Rep.clean r,RepL.clean l⟩
theorem RepK.clean {K:PySem.W.Frag} {ρ:Ad} {H:Hp}:∀{v:List (Key×V)} {d:List (Key×D)},RepK K ρ H v d→clK ρ.ob.length d=true
 | _,_,.nil=>rfl
 | _,_,.cons r l=>by simp [clK];exact ⟨Rep.clean r,RepK.clean l⟩
end
theorem ObR.cut {K:PySem.W.Frag} {ρ:Ad} {H:Hp} {n:Nat} {a:Addr} {o:MO} (x:ObR K ρ H a o) (c:clO n o=true):ObR K (ρ.cut n) H a o:=by
 cases o with
 | lst ds=>obtain ⟨vs,e,l⟩:=x;exact ⟨vs,e,l.cut c⟩
 | dct ds=>obtain ⟨vs,e,l⟩:=x;exact ⟨vs,e,l.cut c⟩
theorem ObR.clean {K:PySem.W.Frag} {ρ:Ad} {H:Hp} {a:Addr} {o:MO} (x:ObR K ρ H a o):clO ρ.ob.length o=true:=by
 cases o with
 | lst ds=>obtain ⟨vs,e,l⟩:=x;exact l.clean
 | dct ds=>obtain ⟨vs,e,l⟩:=x;exact l.clean
def p6 (n:Nat) (h:MH) (d:D):D:=match d with
 | .ob m=>if m < n then .ob m else match h[m]? with
  | some (.lst xs)=>.lv xs
  | some (.dct kvs)=>.dv kvs
  | none=>.ob m
 | d=>d
def leave (h:MH) (d:D) (h':MH):Option (D×MH):=
 if clD h.length (p6 h.length h' d)&&(ou (h'.take h.length) h||(h'.take h.length).all (clO h.length)) then some (p6 h.length h' d,h'.take h.length) else none
def mkL (len:Nat) (body:SM):Fn:=fun ds h=>((body (entry len ds) h).bind so).bind fun p=>leave h p.1 p.2
theorem cp.leave {K:PySem.W.Frag} {ρ:Ad} {H H':Hp} {h h1 h':MH} {d d':D} {v:V} (S:Sim K ρ h H) (p:cp K ρ H h1 d v H') (e:Sm.leave h d h1=some (d',h')):cp K ρ H h' d' v H':=by
 obtain ⟨ρ1,T,S1,r⟩:=p
 unfold Sm.leave at e
 by_cases hc:(clD h.length (p6 h.length h1 d)&&(ou (h1.take h.length) h||(h1.take h.length).all (clO h.length)))=true
 ·rw [if_pos hc] at e
  cases e
  rw [Bool.and_eq_true] at hc
  obtain ⟨c1,c2⟩:=hc
  have hle:h.length≤h1.length:=by
   rw [←S.len,←S1.len]
   refine Nat.le_of_not_lt fun hlt=>?_
   have e1:ρ.ob[ρ1.ob.length]?=some ρ.ob[ρ1.ob.length]:=List.getElem?_eq_getElem hlt
   have:=(List.getElem?_eq_some_iff.mp (T.pre _ _ e1)).1
   omega
  have hall:∀(m:Nat) o,m < h.length→h1[m]?=some o→clO h.length o=true:=by
   intro m o hm ho
   rw [Bool.or_eq_true] at c2
   rcases c2 with c2 | c2
   ·have e1:=oX c2
    have e2:h[m]?=some o:=by rw [←e1,List.getElem?_take_of_lt hm];exact ho
    have hm':m < ρ.ob.length:=by rw [S.len];exact hm
    have:=(S.at_ m _ o (List.getElem?_eq_getElem hm') e2).clean
    rw [S.len] at this
    exact this
   ·rw [List.all_eq_true] at c2
    exact c2 o (List.mem_of_getElem? (show (h1.take h.length)[m]?=some o by rw [List.getElem?_take_of_lt hm];exact ho))
  have Sc:Sim K (ρ1.cut h.length) (h1.take h.length) H':=by
   refine ⟨by simp [S1.len],S1.nd.sublist (List.take_sublist _ _),fun n a o e1 e2=>?_,fun b hb=>⟨(S1.rsv b hb).1,fun m=>(S1.rsv b hb).2 (List.mem_of_mem_take m)⟩⟩
   have hn:n < h.length:=by
    have:=(List.getElem?_eq_some_iff.mp e2).1
    rw [List.length_take] at this
    omega
   have e1:(ρ1.ob.take h.length)[n]?=some a:=e1
   rw [List.getElem?_take_of_lt hn] at e1 e2
   exact (S1.at_ n a o e1 e2).cut (hall n o hn e2)
  refine ⟨ρ1.cut h.length,⟨⟨fun n a e=>?_,fun b o n e=>?_⟩,T.rs,T.res⟩,Sc,?_⟩
  ·have hn:n < h.length:=by rw [←S.len];exact (List.getElem?_eq_some_iff.mp e).1
   show (ρ1.ob.take h.length)[n]?=some a
   rw [List.getElem?_take_of_lt hn]
   exact T.pre n a e
  ·obtain ⟨n1,e1⟩:=T.old b o n e
   exact ⟨fun m=>n1 (Ad.gp m),e1⟩
  ·cases d with
   | ob m=>
    unfold p6 at c1 ⊢
    dsimp only at c1 ⊢
    by_cases hm:m < h.length
    ·rw [if_pos hm] at c1 ⊢
     exact r.cut c1
    ·rw [if_neg hm] at c1 ⊢
     cases r with
     | ob hn=>
      rename_i a
      have na:¬(ρ1.cut h.length).has a:=by
       intro z
       rcases z with z | z
       ·obtain ⟨j,hj⟩:=List.getElem?_of_mem z
        have hj1:j < h.length:=by
         have:=(List.getElem?_eq_some_iff.mp hj).1
         rw [List.length_take] at this
         omega
        rw [List.getElem?_take_of_lt hj1] at hj
        have:=(List.getElem?_inj (List.getElem?_eq_some_iff.mp hj).1 S1.nd).mp (hj.trans hn.symm)
        omega
       ·exact (S1.rsv a z).2 (List.mem_of_getElem? hn)
      cases q:h1[m]? with
      | none=>rw [q] at c1;exact absurd c1 (by simp [clD];omega)
      | some o=>
       have x:=S1.at_ m a o hn q
       cases o with
       | lst xs=>
        rw [q] at c1
        obtain ⟨vs,e1,l⟩:=x
        exact .lv e1 na (l.cut (by simpa [clD] using c1))
       | dct xs=>
        rw [q] at c1
        obtain ⟨vs,e1,l⟩:=x
        exact .dv e1 na (l.cut (by simpa [clD] using c1))
   | _=>exact r.cut c1
 ·rw [if_neg hc] at e;cases e
section
variable {P:Program} {w:World} {K:PySem.W.Frag} {mg:Str→Option Value} {base:Heap} {x qual:Str} {st:Stmt} {f:Addr} {fd:FuncData} {N ps:List Str} {k:Nat}
theorem gj {body:SM} (G:FnOk P w K mg base CX0 k f fd ps (spF K ps.length (mkF N.length body))):FnOk P w K mg base CX0 k f fd ps (spF K ps.length (mkL N.length body)):=by
 refine G.imp fun vs H Q E hh=>?_
 obtain ⟨ρ,h,ds,d,h',S,r,hl,e,q⟩:=hh
 obtain ⟨⟨d1,h1⟩,e1,e2⟩:=bnd e
 exact ⟨ρ,h,ds,d1,h1,S,r,hl,e1,fun v H' p=>q v H' (p.leave S e2)⟩
end
def spT (K:PySem.W.Frag):Sp:=fun vs H Q _=>∃(a:Addr) (ns:List Int),vs=[.ref a]∧SqL K H a (ns.map V.int)∧ns.length≤63∧∀H',Q (.bl true) H'
theorem tI {P:Program} {w:World} {K:PySem.W.Frag} {mg:Str→Option Value} {base:Heap} {k:Nat} {f:Addr} {fd:FuncData} {ps:List Str} {F:Fn} (G:FnOk P w K mg base CX0 k f fd ps (spF K 1 F))
  (hF:∀ns:List Int,ns.length≤63→∃h',F [.ro (ns.map D.int)] []=some (.bl true,h')):FnOk P w K mg base CX0 k f fd ps (spT K):=by
 refine G.imp fun vs H Q E hh=>?_
 obtain ⟨a,ns,rfl,ha,hl,q⟩:=hh
 obtain ⟨h',e⟩:=hF ns hl
 refine ⟨⟨[],[]⟩,[],[.ro (ns.map D.int)],.bl true,h',⟨rfl,List.nodup_nil,fun n a o e=>by simp at e,fun b hb=>absurd hb (by simp)⟩,.cons (.ro ?_ (gG ns)) .nil,rfl,e,fun v H' ⟨ρ',T,S,r⟩=>?_⟩
 ·rcases ha with ha | ha
  ·exact .inl ⟨ha,fun z=>z.elim (fun z=>absurd z (by simp)) fun z=>absurd z (by simp)⟩
  ·exact .inr (.inr ha)
 ·cases r
  exact q H'
end Sm
namespace Sm
open PySem L2 PySem.Spec PyProof.Rows
mutual
def pyD:D→Option PyData
 | .non=>some .none
 | .bl b=>some (.bool b)
 | .int i=>some (.int i)
 | .str x=>some (.str x)
 | .tup xs=>(pyL xs).map .tuple
 | .lv xs=>(pyL xs).map .list
 | .ro xs=>(pyL xs).map .list
 | _=>none
def pyL:List D→Option (List PyData)
 | []=>some []
 | x::r=>(pyD x).bind fun a=>(pyL r).map fun b=>a::b
end
def rdD (h:MH) (d:D):Option PyData:=match d with
 | .ob n=>match h[n]? with
  | some (.lst xs)=>(pyL xs).map .list
  | _=>none
 | d=>pyD d
mutual
theorem Rep.rds {K:PySem.W.Frag} {ρ:Ad} {H:Hp}:∀{v:V} {d:D} {p:PyData},Rep K ρ H v d→pyD d=some p→Rds K H v p∧p.canLay0=true
 | _,_,_,.non,e=>by cases e;exact ⟨.non,rfl⟩
 | _,_,_,.bl b,e=>by cases e;exact ⟨.bl b,rfl⟩
 | _,_,_,.int i,e=>by cases e;exact ⟨.int i,rfl⟩
 | _,_,_,.str hs,e=>by cases e;exact ⟨.str _,by simpa [PyData.canLay0] using hs⟩
 | _,_,_,.ty n,e=>by cases e
 | _,_,_,.tup h l,e=>by
  simp only [pyD] at e
  obtain ⟨q,e1,e2⟩:=mpd e
  subst e2
  obtain ⟨a,b⟩:=RepL.rds l e1
  exact ⟨.tup h.sq a,by simpa [PyData.canLay0] using b⟩
 | _,_,_,.lv h n l,e=>by
  simp only [pyD] at e
  obtain ⟨q,e1,e2⟩:=mpd e
  subst e2
  obtain ⟨a,b⟩:=RepL.rds l e1
  exact ⟨.lst (SqL.of h) a,by simpa [PyData.canLay0] using b⟩
 | _,_,_,.ro h l,e=>by
  simp only [pyD] at e
  obtain ⟨q,e1,e2⟩:=mpd e
  subst e2
  obtain ⟨a,b⟩:=RepL.rds l e1
  exact ⟨.lst h.sq a,by simpa [PyData.canLay0] using b⟩
 | _,_,_,.dv h n l,e=>by simp [pyD] at e
 | _,_,_,.ob h,e=>by simp [pyD] at e
theorem RepL.rds {K:PySem.W.Frag} {ρ:Ad} {H:Hp}:∀{v:List V} {d:List D} {p:List PyData},RepL K ρ H v d→pyL d=some p→RdsL K H v p∧PyData.canLayAll0 p=true
 | _,_,_,.nil,e=>by cases e;exact ⟨.nil,rfl⟩
 | _,_,_,.cons r l,e=>by
  simp only [pyL] at e
  obtain ⟨a,e1,e2⟩:=bnd e
  obtain ⟨b,e3,e4⟩:=mpd e2
  subst e4
  obtain ⟨a1,a2⟩:=Rep.rds r e1
  obtain ⟨b1,b2⟩:=RepL.rds l e3
  exact ⟨.cons a1 b1,by simp [PyData.canLayAll0,a2,b2]⟩
end
section
variable {K:PySem.W.Frag} {ρ:Ad} {H:Hp} {h:MH} {v:V} {d:D}
theorem kS {p:PyData} (S:Sim K ρ h H) (r:Rep K ρ H v d) (e:rdD h d=some p):Rds K H v p∧p.canLay0=true:=by
 cases r with
 | @ob a n hn=>
  unfold rdD at e
  dsimp only at e
  cases q:h[n]? with
  | none=>rw [q] at e;cases e
  | some o=>
   rw [q] at e
   cases o with
   | dct _=>cases e
   | lst xs=>
    obtain ⟨vs,e1,l⟩:=S.at_ n a _ hn q
    obtain ⟨b,e3,e4⟩:=mpd e
    subst e4
    obtain ⟨b1,b2⟩:=l.rds e3
    exact ⟨.lst (SqL.of e1) b1,by simpa [PyData.canLay0] using b2⟩
 | non=>exact Rep.rds (Rep.non (ρ:=ρ)) e
 | bl b=>exact Rep.rds (Rep.bl (ρ:=ρ) b) e
 | int i=>exact Rep.rds (Rep.int (ρ:=ρ) i) e
 | str x=>exact Rep.rds (Rep.str (ρ:=ρ) x) e
 | ty n=>exact Rep.rds (Rep.ty (ρ:=ρ) n) e
 | tup h l=>exact Rep.rds (.tup h l) e
 | lv h n l=>exact Rep.rds (.lv h n l) e
 | ro h l=>exact Rep.rds (.ro h l) e
 | dv h n l=>exact Rep.rds (.dv h n l) e
def dD (d:D) (h:MH):Option (List D):=match d with
 | .lv xs=>some xs
 | .ob n=>match h[n]? with
  | some (.lst xs)=>some xs
  | _=>none
 | _=>none
theorem cZ {xs:List D} (S:Sim K ρ h H) (r:Rep K ρ H v d) (e:dD d h=some xs):∃a vs,v=.ref a∧H a=some (.lst vs)∧RepL K ρ H vs xs:=by
 cases r with
 | @ob a n hn=>
  unfold dD at e
  dsimp only at e
  cases q:h[n]? with
  | none=>rw [q] at e;cases e
  | some o=>
   rw [q] at e
   cases o with
   | dct _=>cases e
   | lst ys=>
    cases e
    obtain ⟨vs,e1,l⟩:=S.at_ n a _ hn q
    exact ⟨a,vs,rfl,e1,l⟩
 | lv h n l=>cases e;exact ⟨_,_,rfl,h,l⟩
 | _=>cases e
def cn (d:D) (h:MH):Option (List (Key×D)):=match d with
 | .dv kvs=>some kvs
 | .ob n=>match h[n]? with
  | some (.dct kvs)=>some kvs
  | _=>none
 | _=>none
theorem fq {xs:List (Key×D)} (S:Sim K ρ h H) (r:Rep K ρ H v d) (e:cn d h=some xs):∃a vs,v=.ref a∧H a=some (.dK vs)∧RepK K ρ H vs xs:=by
 cases r with
 | @ob a n hn=>
  unfold cn at e
  dsimp only at e
  cases q:h[n]? with
  | none=>rw [q] at e;cases e
  | some o=>
   rw [q] at e
   cases o with
   | lst _=>cases e
   | dct ys=>
    cases e
    obtain ⟨vs,e1,l⟩:=S.at_ n a _ hn q
    exact ⟨a,vs,rfl,e1,l⟩
 | dv h n l=>cases e;exact ⟨_,_,rfl,h,l⟩
 | _=>cases e
theorem ij {xs:List D} {ws:W} (S:Sim K ρ h H) (r:Rep K ρ H v d) (e:bY d h=some (xs,ws)):∃a vs,v=.ref a∧(SqL K H a vs∨SqT K H a vs)∧RepL K ρ H vs xs:=by
 obtain ⟨a,e1,⟨vs,q,l⟩,_⟩:=dO S r e
 refine ⟨a,vs,e1,?_,l⟩
 generalize iZ d=b at q
 cases q with
 | l q=>exact .inl q
 | t q=>exact .inr q
def iY:D→Option Key
 | .int i=>some (.inl i)
 | .str x=>some (.inr x)
 | _=>none
def gy (kvs:List (Key×D)) (k:Key):Option D:=(kvs.find? fun kv=>decide (kv.1=k)).map (·.2)
def putD (kvs:List (Key×D)) (k:Key) (v:D):List (Key×D):=
 if (kvs.any fun kv=>decide (kv.1=k))=true then kvs.map (fun kv=>if kv.1=k then (kv.1,v) else kv) else kvs++[(k,v)]
theorem fm {k:Key} (r:Rep K ρ H v d) (e:iY d=some k):v=kV k:=by
 cases r with
 | int i=>cases e;rfl
 | str x=>cases e;rfl
 | _=>cases e
theorem RepK.val:∀{us:List (Key×V)} {kvs:List (Key×D)} (k:Key),RepK K ρ H us kvs→(gy kvs k=none∧eF us k=none)∨∃d v,gy kvs k=some d∧eF us k=some v∧Rep K ρ H v d
 | _,_,k,.nil=>.inl ⟨rfl,rfl⟩
 | _,_,k,.cons (k:=j) (v:=v) (vs:=vs) (d:=d) (ds:=ds) r l=>by
  by_cases z:j=k
  ·exact .inr ⟨d,v,by simp [gy,z],by simp [eF,z],r⟩
  ·have h1:gy ((j,d)::ds) k=gy ds k:=by simp only [gy,List.find?_cons,z,decide_false]
   have h2:eF ((j,v)::vs) k=eF vs k:=fR z
   rw [h1,h2]
   exact RepK.val k l
theorem RepK.length:∀{us:List (Key×V)} {kvs:List (Key×D)},RepK K ρ H us kvs→us.length=kvs.length
 | _,_,.nil=>rfl
 | _,_,.cons _ l=>by rw [List.length_cons,List.length_cons,RepK.length l]
theorem RepK.any (k:Key):∀{us:List (Key×V)} {kvs:List (Key×D)},RepK K ρ H us kvs→(us.any fun kv=>decide (kv.1=k))=(kvs.any fun kv=>decide (kv.1=k))
 | _,_,.nil=>rfl
 | _,_,.cons _ l=>by rw [List.any_cons,List.any_cons,RepK.any k l]
theorem RepK.map {k:Key} {v:V} {d:D} (r:Rep K ρ H v d):∀{us:List (Key×V)} {kvs:List (Key×D)},RepK K ρ H us kvs→RepK K ρ H (us.map fun kv=>if kv.1=k then (kv.1,v) else kv) (kvs.map fun kv=>if kv.1=k then (kv.1,d) else kv)
 | _,_,.nil=>.nil
 | _,_,.cons (k:=j) q l=>by
  rw [List.map_cons,List.map_cons]
  by_cases z:j=k
  ·rw [if_pos z,if_pos z];exact .cons r (RepK.map r l)
  ·rw [if_neg z,if_neg z];exact .cons q (RepK.map r l)
theorem RepK.append:∀{us vs:List (Key×V)} {ks ls:List (Key×D)},RepK K ρ H us ks→RepK K ρ H vs ls→RepK K ρ H (us++vs) (ks++ls)
 | _,_,_,_,.nil,t=>t
 | _,_,_,_,.cons r l,t=>.cons r (RepK.append l t)
theorem RepK.put {us:List (Key×V)} {kvs:List (Key×D)} {k:Key} (l:RepK K ρ H us kvs) {v:V} {d:D} (r:Rep K ρ H v d):RepK K ρ H (putK us k v) (putD kvs k d):=by
 unfold putK putD
 rw [l.any k]
 by_cases z:(kvs.any fun kv=>decide (kv.1=k))=true
 ·rw [if_pos z,if_pos z];exact l.map r
 ·rw [if_neg z,if_neg z];exact l.append (.cons r .nil)
end
def pM (d e:D) (h:MH):Option (D×MH):=match d,e with
 | .int i,.int j=>some (.int (i+j),h)
 | .str a,.str b=>if a.length+b.length≤sizeLine then some (.str (a++b),h) else none
 | .tup [],.tup _=>none
 | .tup (x::xs),.tup ys=>if xs.length+1+ys.length≤sizeLine then some (.tup (x::xs++ys),h) else none
 | d,e=>(dD d h).bind fun xs=>(dD e h).bind fun ys=>if xs.length+ys.length≤sizeLine then some (.lv (xs++ys),h) else none
def lH (d e:D) (h:MH):Option (D×MH):=match d,e with
 | .int i,.int j=>some (.int (i-j),h)
 | _,_=>none
def fy (i j:Int):Bool:=(decide (-(2^64) < i)&&decide (i < 2^64))||(decide (-(2^64) < j)&&decide (j < 2^64))
def wk (d e:D) (h:MH):Option (D×MH):=match d,e with
 | .int i,.int j=>if fy i j then some (.int (i*j),h) else none
 | _,_=>none
def i9 (d e:D) (h:MH):Option (D×MH):=match d,e with
 | .int i,.int j=>if 0 < j then some (.int (i % j),h) else none
 | _,_=>none
def qY (d e:D) (h:MH):Option (D×MH):=match d,e with
 | .int i,.int j=>if 0 < j∧j≤10^40 then some (.int (i / j),h) else none
 | _,_=>none
def pK (d e:D) (h:MH):Option (D×MH):=match d,e with
 | .int i,.int j=>if 0≤j∧j≤1000000∧i.natAbs < 2^64 then some (.int (i^j.toNat),h) else none
 | _,_=>none
def rp (f:Int→Int→Bool) (d e:D) (h:MH):Option (D×MH):=match d,e with
 | .int i,.int j=>some (.bl (f i j),h)
 | _,_=>none
def fLt:=rp fun i j=>decide (i < j)
def fLe:=rp fun i j=>decide (i≤j)
def fGt:=rp fun i j=>decide (j < i)
def fGe:=rp fun i j=>decide (j≤i)
def eqD (d e:D) (h:MH):Option Bool:=(rdD h d).bind fun a=>(rdD h e).bind fun b=>if a.depth≤64∧b.depth≤64 then some (PyData.eqv a b) else none
def isN:D→Bool
 | .non=>true
 | _=>false
def xU (d e:D) (h:MH):Option (D×MH):=match e with
 | .non=>some (.bl (isN d),h)
 | _=>none
def g7 (d:D) (h:MH):Option (D×MH):=match d with
 | .int i=>some (.int (-i),h)
 | _=>none
def inD (d e:D) (h:MH):Option Bool:=match cn e h with
 | some kvs=>(iY d).map fun k=>(gy kvs k).isSome
 | none=>match d,e with
  | .str x,.str y=>some (!(Builtin.Str.occurrences y x 0 y.length 1).isEmpty)
  | d,e=>(bY e h).bind fun p=>(rdD h d).bind fun a=>(pyL p.1).bind fun bs=>if a.depth≤60∧PyData.depthAll bs≤60 then some (bs.any fun b=>PyData.eqv b a) else none
def lK (d e:D) (h:MH):Option (D×MH):=(inD d e h).map fun c=>(.bl (!c),h)
def fIx (d e:D) (h:MH):Option (D×MH):=match cn d h with
 | some kvs=>(iY e).bind fun k=>(gy kvs k).map fun z=>(z,h)
 | none=>match d,e with
  | .str z,.int i=>if z.length≤sizeLine then (atI z.cps.toList i).map fun c=>(.str ⟨#[c]⟩,h) else none
  | d,.int i=>(bY d h).bind fun p=>(atI p.1 i).map fun z=>(z,h)
  | _,_=>none
end Sm
namespace Sm
open PySem L2 PySem.Spec PyProof.Rows
section
variable {X:Cx}
theorem kY {g:Value→Value→Sem Value} {C:Int→Int→Prop} {q:Int→Int→V} {f:D→D→MH→Option (D×MH)} (ho:OpR X g (rI C q))
  (hf:∀d e h z h',f d e h=some (z,h')→∃i j,d=.int i∧e=.int j∧C i j∧h'=h∧∀ρ H,Rep X.K ρ H (q i j) z):OpS X g f:=by
 intro pins s σ H x y v u Q I rx ry hh
 obtain ⟨ρ,h,d,e,z,h',S,rd,re,ee,k⟩:=hh
 obtain ⟨i,j,rfl,rfl,c,rfl,rz⟩:=hf _ _ _ _ _ ee
 cases rd;cases re
 exact ho pins s σ H _ _ v u Q I rx ry ⟨i,j,rfl,rfl,c,k _ _ (.here S (rz _ _))⟩
theorem il {g:Value→Value→Sem Value} {q:Int→Int→V} {f:D→D→MH→Option (D×MH)} (ho:OpR X g (rI0 q))
  (hf:∀d e h z h',f d e h=some (z,h')→∃i j,d=.int i∧e=.int j∧h'=h∧∀ρ H,Rep X.K ρ H (q i j) z):OpS X g f:=by
 intro pins s σ H x y v u Q I rx ry hh
 obtain ⟨ρ,h,d,e,z,h',S,rd,re,ee,k⟩:=hh
 obtain ⟨i,j,rfl,rfl,rfl,rz⟩:=hf _ _ _ _ _ ee
 cases rd;cases re
 exact ho pins s σ H _ _ v u Q I rx ry ⟨i,j,rfl,rfl,k _ _ (.here S (rz _ _))⟩
theorem fI:OpS X (binaryOp .Sub) lH:=il vF fun d e h z h' ee=>by
 cases d <;> first | (cases ee;done) | skip
 cases e <;> first | (cases ee;done) | skip
 cases ee;exact ⟨_,_,rfl,rfl,rfl,fun _ _=>.int _⟩
theorem vB:OpS X (binaryOp .Mult) wk:=kY vI fun d e h z h' ee=>by
 cases d <;> first | (cases ee;done) | skip
 cases e <;> first | (cases ee;done) | skip
 rename_i i j
 unfold wk at ee
 dsimp only at ee
 by_cases c:fy i j=true
 ·rw [if_pos c] at ee;cases ee
  refine ⟨i,j,rfl,rfl,?_,rfl,fun _ _=>.int _⟩
  unfold fy at c
  simp only [Bool.or_eq_true,Bool.and_eq_true,decide_eq_true_eq] at c
  exact c
 ·rw [if_neg c] at ee;cases ee
theorem fJ:OpS X (binaryOp .Mod) i9:=kY vJ fun d e h z h' ee=>by
 cases d <;> first | (cases ee;done) | skip
 cases e <;> first | (cases ee;done) | skip
 rename_i i j
 unfold i9 at ee
 dsimp only at ee
 by_cases c:0 < j
 ·rw [if_pos c] at ee;cases ee;exact ⟨i,j,rfl,rfl,c,rfl,fun _ _=>.int _⟩
 ·rw [if_neg c] at ee;cases ee
theorem vD:OpS X (binaryOp .FloorDiv) qY:=kY qH fun d e h z h' ee=>by
 cases d <;> first | (cases ee;done) | skip
 cases e <;> first | (cases ee;done) | skip
 rename_i i j
 unfold qY at ee
 dsimp only at ee
 by_cases c:0 < j∧j≤10^40
 ·rw [if_pos c] at ee;cases ee;exact ⟨i,j,rfl,rfl,c,rfl,fun _ _=>.int _⟩
 ·rw [if_neg c] at ee;cases ee
theorem kX:OpS X (binaryOp .Pow) pK:=kY vH fun d e h z h' ee=>by
 cases d <;> first | (cases ee;done) | skip
 cases e <;> first | (cases ee;done) | skip
 rename_i i j
 unfold pK at ee
 dsimp only at ee
 by_cases c:0≤j∧j≤1000000∧i.natAbs < 2^64
 ·rw [if_pos c] at ee;cases ee;exact ⟨i,j,rfl,rfl,c,rfl,fun _ _=>.int _⟩
 ·rw [if_neg c] at ee;cases ee
theorem rn {f:Int→Int→Bool} {d e z:D} {h h':MH} (ee:rp f d e h=some (z,h')):∃i j,d=.int i∧e=.int j∧h'=h∧z=.bl (f i j):=by
 cases d <;> first | (cases ee;done) | skip
 cases e <;> first | (cases ee;done) | skip
 cases ee;exact ⟨_,_,rfl,rfl,rfl,rfl⟩
theorem mF:OpS X (compareOp .Lt) fLt:=il xK fun d e h z h' ee=>by
 obtain ⟨i,j,rfl,rfl,rfl,rfl⟩:=rn ee;exact ⟨i,j,rfl,rfl,rfl,fun _ _=>.bl _⟩
theorem eC:OpS X (compareOp .Gt) fGt:=il xM fun d e h z h' ee=>by
 obtain ⟨i,j,rfl,rfl,rfl,rfl⟩:=rn ee;exact ⟨i,j,rfl,rfl,rfl,fun _ _=>.bl _⟩
theorem ug:OpS X (compareOp .GtE) fGe:=il xN fun d e h z h' ee=>by
 obtain ⟨i,j,rfl,rfl,rfl,rfl⟩:=rn ee;exact ⟨i,j,rfl,rfl,rfl,fun _ _=>.bl _⟩
theorem dJ:UnR X (unaryOp .USub) (rU X.K g7):=by
 intro pins s σ H x v Q I rx hh
 obtain ⟨ρ,h,d,z,h',S,rd,ee,k⟩:=hh
 cases rd <;> first | (cases ee;done) | skip
 cases ee
 exact uw pins s σ H _ v Q I rx ⟨_,rfl,k _ _ (.here S (.int _))⟩
theorem vE:OpS X (binaryOp .Add) pM:=by
 intro pins s σ H x y v u Q I rx ry hh
 obtain ⟨ρ,h,d,e,z,h',S,rd,re,ee,k⟩:=hh
 have lists:((dD d h).bind fun xs=>(dD e h).bind fun ys=>if xs.length+ys.length≤sizeLine then some (D.lv (xs++ys),h) else none)=some (z,h')→wpAny (model X.prog X.w) X.A (binaryOp .Add v u) (EP X pins σ Q) X.xe s:=by
  intro ee
  obtain ⟨xs,e1,e4⟩:=bnd ee
  obtain ⟨ys,e2,e3⟩:=bnd e4
  by_cases c:xs.length+ys.length≤sizeLine
  ·rw [if_pos c] at e3;cases e3
   obtain ⟨a,vs,rfl,ha,la⟩:=cZ S rd e1
   obtain ⟨b,us,rfl,hb,lb⟩:=cZ S re e2
   exact qJ pins s σ H _ _ v u Q I rx ry ⟨a,b,vs,us,rfl,rfl,ha,hb,by rw [la.length,lb.length];exact c,fun p hp=>k _ _ (.lv S (la.append lb) hp)⟩
  ·rw [if_neg c] at e3;cases e3
 cases d with
 | int i=>
  cases e <;> first | (cases ee;done) | skip
  cases ee;cases rd;cases re
  exact vL pins s σ H _ _ v u Q I rx ry ⟨_,_,rfl,rfl,k _ _ (.here S (.int _))⟩
 | str a=>
  cases e <;> first | (cases ee;done) | skip
  rename_i b
  unfold pM at ee
  dsimp only at ee
  by_cases c:a.length+b.length≤sizeLine
  ·rw [if_pos c] at ee;cases ee
   cases rd with | str h1=>cases re with | str h2=>
   exact nI pins s σ H _ _ v u Q I rx ry ⟨a,b,rfl,rfl,c,k _ _ (.here S (.str (o7 h1 h2)))⟩
  ·rw [if_neg c] at ee;cases ee
 | tup xs=>
  cases xs with
  | nil=>cases e <;> cases ee
  | cons x0 xs=>
   cases e <;> first | (cases ee;done) | skip
   rename_i ys
   unfold pM at ee
   dsimp only at ee
   by_cases c:xs.length+1+ys.length≤sizeLine
   ·rw [if_pos c] at ee;cases ee
    cases rd with | tup h1 l1=>cases re with | tup h2 l2=>
    rename_i a vs b us
    refine tq pins s σ H _ _ v u Q I rx ry ⟨a,b,vs,us,rfl,rfl,h1.sq,h2.sq,?_,?_,fun z=>?_,fun _ p hp=>k _ _ (.tup S (l1.append l2) hp)⟩
    ·intro z;rw [z] at l1;cases l1
    ·rw [l1.length,l2.length];exact c
    ·rw [z] at l2
     cases l2
     rw [List.append_nil] at k
     exact k _ _ (.here S (.tup h1 l1))
   ·rw [if_neg c] at ee;cases ee
 | lv xs=>exact lists (by cases e <;> exact ee)
 | ob n=>exact lists (by cases e <;> exact ee)
 | non=>exact lists (by cases e <;> exact ee)
 | bl b=>exact lists (by cases e <;> exact ee)
 | ty b=>exact lists (by cases e <;> exact ee)
 | ro b=>exact lists (by cases e <;> exact ee)
 | dv b=>exact lists (by cases e <;> exact ee)
theorem fo {p:PyData} (h1:p.canLay0=true) (h2:p.depth≤64):SeqAt.shaped p=true:=by
 unfold PySem.SeqAt.shaped;rw [h1,decide_eq_true h2];rfl
theorem sr {K:PySem.W.Frag} {ρ:Ad} {H:Hp} {v:V} {d:D} (r:Rep K ρ H v d):decide (v=V.non)=isN d:=by
 cases r <;> rfl
theorem vC:OpS X (compareOp .Is) xU:=by
 intro pins s σ H x y v u Q I rx ry hh
 obtain ⟨ρ,h,d,e,z,h',S,rd,re,ee,k⟩:=hh
 cases e <;> first | (cases ee;done) | skip
 cases ee;cases re
 refine vK pins s σ H _ _ v u Q I rx ry ⟨rfl,?_⟩
 rw [sr rd]
 exact k _ _ (.here S (.bl _))
theorem kC {h:Heap} {p:PyData} {f:Value→Bool}:∀{us:List Value} {ds:List PyData} {as:List Addr},ReadsAll h us ds as→(∀u d as,u∈us→Reads h u d as→d∈ds→f u=PyData.eqv d p)→us.any f=ds.any fun b=>PyData.eqv b p
 | _,_,_,.nil,_=>rfl
 | _,_,_,.cons r l,hf=>by
  rw [List.any_cons,List.any_cons,hf _ _ _ List.mem_cons_self r List.mem_cons_self,kC l fun u d as hu hr hd=>hf u d as (List.mem_cons_of_mem _ hu) hr (List.mem_cons_of_mem _ hd)]
open Classical in
noncomputable def eqF (h:Heap) (p:PyData) (u:Value):Bool:=if q:∃d as,Reads h u d as∧d.canLay0=true then PyData.eqv q.choose p else false
theorem q0 {h:Heap} {p d:PyData} {u:Value} {as:List Addr} (r:Reads h u d as) (c:d.canLay0=true):eqF h p u=PyData.eqv d p:=by
 have q:∃d as,Reads h u d as∧d.canLay0=true:=⟨d,as,r,c⟩
 unfold eqF
 rw [dif_pos q]
 obtain ⟨as',r',c'⟩:=q.choose_spec
 rw [PySem.SeqAt.Reads.unique _ _ _ _ _ c' r' r]
theorem eA:∀{ds:List PyData} {d:PyData},PyData.canLayAll0 ds=true→d∈ds→d.canLay0=true
 | x::r,d,c,m=>by
  simp only [PyData.canLayAll0,Bool.and_eq_true] at c
  rcases List.mem_cons.mp m with rfl | m
  ·exact c.1
  ·exact eA c.2 m
theorem ki:∀{ds:List PyData} {d:PyData},d∈ds→d.depth≤PyData.depthAll ds
 | x::r,d,m=>by
  simp only [PyData.depthAll]
  rcases List.mem_cons.mp m with rfl | m
  ·omega
  ·have:=ki m;omega
end
end Sm
namespace Sm
open PySem L2 PySem.Spec PyProof.Rows
theorem jZ {h:Heap}:∀{us:List Value} {ds:List PyData} {as:List Addr},ReadsAll h us ds as→∀y∈us,∃d as,Reads h y d as∧d∈ds
 | _,_,_,.nil,y,hy=>by cases hy
 | _,_,_,.cons r l,y,hy=>by
  rcases List.mem_cons.mp hy with rfl | hy
  ·exact ⟨_,_,r,List.mem_cons_self⟩
  ·obtain ⟨d,as,a1,a2⟩:=jZ l y hy
   exact ⟨d,as,a1,List.mem_cons_of_mem _ a2⟩
section
variable {X:Cx} {pins:List (Addr×Obj)} {σ:L2.St} {H:Hp} {s:Shared} {ρ:Ad} {h:MH} {x y:V} {v u:Value} {d e:D}
theorem in_of (hu:X.A.units+64 < cLine) (I:L2.Inv X pins σ H s) (rx:L2.RelV x v) (ry:L2.RelV y u) (S:Sim X.K ρ h H) (rd:Rep X.K ρ H x d) (re:Rep X.K ρ H y e) {c:Bool} (ee:inD d e h=some c) {Q:Bool→Shared→Prop} (hq:∀s',L2.Inv X pins σ H s'→Q c s'):
  wpAny (model X.prog X.w) X.A (compareOp .In v u) (fun r s'=>∃c,r=.bool c∧Q c s') X.xe s∧wpAny (model X.prog X.w) X.A (compareOp .NotIn v u) (fun r s'=>∃c,r=.bool (!c)∧Q c s') X.xe s:=by
 unfold inD at ee
 cases qd:cn e h with
 | some kvs=>
  rw [qd] at ee
  obtain ⟨k,e1,e2⟩:=mpd ee
  obtain ⟨a,us,rfl,ha,l⟩:=fq S re qd
  obtain rfl:u=Value.ref a:=ry
  have ek:=fm rd e1
  subst ek
  have g:jN H a (kV k) (eF us k):=jN.k ha
  have ec:(eF us k).isSome=c:=by
   rw [←e2]
   rcases l.val k with ⟨h1,h2⟩ | ⟨d,v,h1,h2,_⟩
   ·rw [h1,h2];rfl
   ·rw [h1,h2];rfl
  refine ⟨y2 (by omega) I g rx fun s' I'=>⟨c,by rw [ec],hq s' I'⟩,tU (by omega) I g rx fun s' I'=>⟨c,by rw [ec],hq s' I'⟩⟩
 | none=>
  rw [qd] at ee
  dsimp only at ee
  have seqs:((bY e h).bind fun p=>(rdD h d).bind fun a=>(pyL p.1).bind fun bs=>if a.depth≤60∧PyData.depthAll bs≤60 then some (bs.any fun b=>PyData.eqv b a) else none)=some c→
    wpAny (model X.prog X.w) X.A (compareOp .In v u) (fun r s'=>∃c,r=.bool c∧Q c s') X.xe s∧wpAny (model X.prog X.w) X.A (compareOp .NotIn v u) (fun r s'=>∃c,r=.bool (!c)∧Q c s') X.xe s:=by
   intro ee
   obtain ⟨⟨xs,ws⟩,e1,e2⟩:=bnd ee
   obtain ⟨p,e3,e4⟩:=bnd e2
   obtain ⟨bs,e5,e6⟩:=bnd e4
   by_cases w:p.depth≤60∧PyData.depthAll bs≤60
   ·rw [if_pos w] at e6;cases e6
    obtain ⟨a,vs,rfl,hq',l⟩:=ij S re e1
    obtain rfl:u=Value.ref a:=ry
    obtain ⟨r1,c1⟩:=kS S rd e3
    obtain ⟨r2,c2⟩:=l.rds e5
    obtain ⟨as,ra⟩:=r1.reads I rx
    have key:∀its:List Value,Vals vs its→(∀y,y∈its→PySem.SeqAt.EqAt X.A.in1 s y v (eqF s.heap p y))∧its.any (eqF s.heap p)=bs.any fun b=>PyData.eqv b p:=by
     intro its rv
     obtain ⟨bs',rb⟩:=r2.reads I rv
     refine ⟨fun y hy=>?_,kC rb fun u d as _ hr hd=>q0 hr (eA c2 hd)⟩
     obtain ⟨d,as',hr,hd⟩:=jZ rb y hy
     rw [q0 hr (eA c2 hd)]
     refine PySem.SeqAt.eqAt_reads d p _ s y v as' as hr ra (eA c2 hd) c1 ?_
     have h1:=ki hd
     have h2:min d.depth p.depth≤d.depth:=Nat.min_le_left _ _
     show X.A.units+1+min d.depth p.depth < cLine
     have h3:=w.2
     omega
    rcases hq' with hq' | hq'
    ·obtain ⟨its,rv,pl,_⟩:=I.list hq'
     obtain ⟨k1,k2⟩:=key its rv
     have k1':∀y,y∈its.toArray→PySem.SeqAt.EqAt X.A.in1 s y v (eqF s.heap p y):=fun y hy=>k1 y (by simpa using hy)
     have k2':its.toArray.any (eqF s.heap p)=bs.any fun b=>PyData.eqv b p:=by rw [←k2];simp
     exact ⟨PySem.SeqAt.in_listAt _ pl.isList k1' ⟨_,rfl,by rw [k2'];exact hq s I⟩,PySem.SeqAt.notIn_listAt _ pl.isList k1' ⟨_,rfl,by rw [k2'];exact hq s I⟩⟩
    ·obtain ⟨its,rv,pl,_⟩:=I.tuple hq'
     obtain ⟨k1,k2⟩:=key its rv
     have k1':∀y,y∈its.toArray→PySem.SeqAt.EqAt X.A.in1 s y v (eqF s.heap p y):=fun y hy=>k1 y (by simpa using hy)
     have k2':its.toArray.any (eqF s.heap p)=bs.any fun b=>PyData.eqv b p:=by rw [←k2];simp
     exact ⟨PySem.SeqAt.in_tupleAt _ pl k1' ⟨_,rfl,by rw [k2'];exact hq s I⟩,PySem.SeqAt.notIn_tupleAt _ pl k1' ⟨_,rfl,by rw [k2'];exact hq s I⟩⟩
   ·rw [if_neg w] at e6;cases e6
  by_cases hs:(∃a,d=.str a)∧∃b,e=.str b
  ·obtain ⟨⟨a,rfl⟩,b,rfl⟩:=hs
   cases ee
   cases rd;cases re
   obtain ⟨t,rfl⟩:=rx
   obtain ⟨t',rfl⟩:=ry
   exact ⟨in_str ⟨_,rfl,hq s I⟩,notIn_str ⟨_,rfl,hq s I⟩⟩
  ·refine seqs ?_
   cases d <;> first | exact ee | skip
   cases e <;> first | exact ee | skip
   exact absurd ⟨⟨_,rfl⟩,_,rfl⟩ hs
theorem qG (hu:X.A.units+64 < cLine):OpS X (compareOp .NotIn) lK:=by
 intro pins s σ H x y v u Q I rx ry hh
 obtain ⟨ρ,h,d,e,z,h',S,rd,re,ee,k⟩:=hh
 obtain ⟨c,e1,e2⟩:=mpd ee
 cases e2
 refine thn (in_of hu I rx ry S rd re e1 (Q:=fun c' s'=>c'=c∧L2.Inv X pins σ H s') fun s' I'=>⟨rfl,I'⟩).2 fun r s' ⟨c',hr,hc,I'⟩=>?_
 subst hr;subst hc
 exact ⟨.bl _,H,I',rfl,k _ _ (.here S (.bl _))⟩
end
end Sm
namespace Sm
open PySem L2 PySem.Spec PyProof.Rows
theorem t5 {K:PySem.W.Frag} {ρ:Ad} {H:Hp} {vs:List V} {ds:List D} {i:Int} {d:D} (l:RepL K ρ H vs ds) (e:atI ds i=some d):∃v,atI vs i=some v∧Rep K ρ H v d:=by
 unfold atI at e
 obtain ⟨j,e1,e2⟩:=bnd e
 obtain ⟨v,e3,r⟩:=l.got e2
 exact ⟨v,by unfold atI;rw [l.length,e1];exact e3,r⟩
section
variable {X:Cx}
theorem xQ (hu:X.A.units+64 < cLine):IxR X (rS X.K fIx):=by
 intro value slice pins s σ H x y v u Q I rx ry hh hs
 obtain ⟨ρ,h,d,e,z,h',S,rd,re,ee,k⟩:=hh
 unfold fIx at ee
 cases qd:cn d h with
 | some kvs=>
  rw [qd] at ee
  obtain ⟨ky,e1,e2⟩:=bnd ee
  obtain ⟨z',e3,e4⟩:=mpd e2
  cases e4
  obtain ⟨a,us,rfl,ha,l⟩:=fq S rd qd
  obtain rfl:v=Value.ref a:=rx
  have ek:=fm re e1
  subst ek
  rcases l.val ky with ⟨h1,h2⟩ | ⟨d',w,h1,h2,r⟩
  ·rw [h1] at e3;cases e3
  ·rw [h1] at e3;cases e3
   have g:jN H a (kV ky) (some w):=by rw [←h2];exact jN.k ha
   exact tail_any (ng I g) PySem.F.slot_dict_getitem.lookup (pR (by omega) I g ry fun w' s3 I3 rw'=>⟨w,H,I3,rw',k _ _ (.here S r)⟩) hs
 | none=>
  rw [qd] at ee
  dsimp only at ee
  cases e <;> first | (cases d <;> (cases ee;done)) | skip
  rename_i i
  have seqs:((bY d h).bind fun p=>(atI p.1 i).map fun z=>(z,h))=some (z,h')→wpAny (model X.prog X.w) X.A (subscriptTail value slice v u) (EP X pins σ Q) X.xe s:=by
   intro ee
   obtain ⟨⟨xs,ws⟩,e1,e2⟩:=bnd ee
   obtain ⟨z',e3,e4⟩:=mpd e2
   cases e4
   obtain ⟨a,vs,rfl,hq',l⟩:=ij S rd e1
   obtain ⟨w,e5,r⟩:=t5 l e3
   cases re
   rcases hq' with hq' | hq'
   ·exact tK value slice pins s σ H _ _ v u Q I rx ry ⟨a,vs,i,w,rfl,rfl,hq',e5,k _ _ (.here S r)⟩ hs
   ·exact vZ value slice pins s σ H _ _ v u Q I rx ry ⟨a,vs,i,w,rfl,rfl,hq',e5,k _ _ (.here S r)⟩ hs
  cases d with
  | str x0=>
   dsimp only at ee
   by_cases c:x0.length≤sizeLine
   ·rw [if_pos c] at ee
    obtain ⟨ch,e3,e4⟩:=mpd ee
    cases e4
    cases rd with | str hs0=>
    cases re
    exact wa value slice pins s σ H _ _ v u Q I rx ry ⟨x0,i,ch,rfl,rfl,c,e3,k _ _ (.here S (.str (o6 hs0 e3)))⟩ hs
   ·rw [if_neg c] at ee;cases ee
  | _=>exact seqs ee
theorem aq {a b:Expr} {pos:Pos} {ma mb:EM} (hu:X.A.units+64 < cLine) (ha:SE X a ma) (hb:SE X b mb) (hs:lY b:=by unfold lY;intro _ _;kernel_rfl):SE X (.Subscript a b pos) (eOp fIx ma mb):=(xG (xQ hu) ha hb hs).imp fun _ _ _=>oG
abbrev PM:=DS→MH→Option (Option Int×MH)
def pNo:PM:=fun _ h=>some (none,h)
def pAt (e:EM):PM:=fun δ h=>(e δ h).bind fun p=>match p.1 with
 | .int i=>some (some i,p.2)
 | _=>none
inductive TMOi (K:PySem.W.Frag) (m:PM) (σ:L2.St) (H:Hp) (Q:Option Int→Hp→Prop):Prop where
 | mk (ρ δ h b h'):RepS K ρ H σ δ→Sim K ρ h H→(m δ h=some (b,h'))→(∀ρ' H',Stp ρ H ρ' H'→Sim K ρ' h' H'→Q b H')→TMOi K m σ H Q
def tMO (K:PySem.W.Frag) (m:PM):TO:=fun σ H Q=>TMOi K m σ H Q
def SP' (X:Cx) (e:Option Expr) (m:PM):Prop:=PO X e (tMO X.K m)
theorem ig:SP' X none pNo:=fun pins s σ H Q I hh=>by
 obtain ⟨ρ,δ,h,b,h',R,S,e,k⟩:=hh
 cases e
 exact sO pins s σ H Q I (k ρ H (.refl _ _) S)
theorem ie {e:Expr} {ma:EM} (he:SE X e ma):SP' X (some e) (pAt ma):=fun pins s σ H Q I hh=>by
 obtain ⟨ρ,δ,h,b,h',R,S,e,k⟩:=hh
 obtain ⟨⟨x,h1⟩,e1,e2⟩:=bnd e
 cases x <;> first | (cases e2;done) | skip
 cases e2
 refine sN he pins s σ H Q I ⟨ρ,δ,h,_,_,R,S,e1,fun v H' ⟨ρ',T,S',r⟩=>?_⟩
 cases r
 exact ⟨_,rfl,k ρ' H' T S'⟩
def cutD (xs:List D) (lo hi:Option Int):List D:=(xs.drop (HT.sIx xs.length 0 lo)).take (HT.sIx xs.length xs.length hi-HT.sIx xs.length 0 lo)
def fSl (d:D) (lo hi:Option Int) (h:MH):Option (D×MH):=match d with
 | .str z=>if z.length≤sizeLine then some (.str (Txt.slice z lo hi),h) else none
 | .tup xs=>if HT.sIx xs.length 0 lo=0∧HT.sIx xs.length xs.length hi=xs.length then none else some (.tup (cutD xs lo hi),h)
 | d=>(bY d h).map fun p=>(.lv (cutD p.1 lo hi),h)
def eSl (a:EM) (l u:PM):EM:=fun δ h=>(a δ h).bind fun p=>(l δ p.2).bind fun q=>(u δ q.2).bind fun r=>fSl p.1 q.1 r.1 r.2
inductive RSLi (K:PySem.W.Frag) (x:V) (lo hi:Option Int) (H:Hp) (Q:VK):Prop where
 | mk (ρ h d z h'):Sim K ρ h H→Rep K ρ H x d→(fSl d lo hi h=some (z,h'))→(∀v H',cp K ρ H h' z v H'→Q v H')→RSLi K x lo hi H Q
def rSl (K:PySem.W.Frag):V→Option Int→Option Int→Hp→VK→Prop:=fun x lo hi H Q=>RSLi K x lo hi H Q
theorem RepL.jd {K:PySem.W.Frag} {ρ:Ad} {H:Hp} {vs:List V} {ds:List D} (l:RepL K ρ H vs ds) (lo hi:Option Int):RepL K ρ H (L2.jd vs lo hi) (cutD ds lo hi):=by
 unfold L2.jd cutD
 rw [l.length]
 exact (l.drop _).take _
theorem ub:SlR X (rSl X.K):=by
 intro pins s σ H x v vl vu lo hi sl Q I rx hs pl pu hh
 obtain ⟨ρ,h,d,z,h',S,rd,ee,k⟩:=hh
 have lists:iZ d=true→((bY d h).map fun p=>(D.lv (cutD p.1 lo hi),h))=some (z,h')→∃T id,typeLookup (.type T) "__getitem__"=pure (some (.builtin id))∧s.TypeIs v T∧wpAny (model X.prog X.w) X.A (getItem v (.ref sl)) (EP X pins σ Q) X.xe s:=by
  intro nt e2
  obtain ⟨⟨xs,ws⟩,e1,e2⟩:=mpd e2
  cases e2
  obtain ⟨a,rfl,⟨vs,q,l⟩,_⟩:=dO S rd e1
  rw [nt] at q
  cases q with
  | l q=>exact rZ pins s σ H _ v vl vu lo hi sl Q I rx hs pl pu ⟨a,vs,rfl,q,fun p hp=>k _ _ (.lv S (l.jd lo hi) hp)⟩
 cases d with
 | str x0=>
  unfold fSl at ee
  dsimp only at ee
  by_cases c:x0.length≤sizeLine
  ·rw [if_pos c] at ee;cases ee
   cases rd with | str hs0=>
   exact uH pins s σ H _ v vl vu lo hi sl Q I rx hs pl pu ⟨x0,rfl,c,k _ _ (.here S (.str (mn _ _ hs0)))⟩
  ·rw [if_neg c] at ee;cases ee
 | tup xs=>
  unfold fSl at ee
  dsimp only at ee
  by_cases c:HT.sIx xs.length 0 lo=0∧HT.sIx xs.length xs.length hi=xs.length
  ·rw [if_pos c] at ee;cases ee
  ·rw [if_neg c] at ee;cases ee
   cases rd with | tup h0 l0=>
   exact uG pins s σ H _ v vl vu lo hi sl Q I rx hs pl pu ⟨_,_,rfl,h0.sq,by rw [l0.length];exact c,fun p hp=>k _ _ (.tup S (l0.jd lo hi) hp)⟩
 | _=>exact lists rfl ee
theorem aL {x:Str} {id:String} {p pos:Pos} {e:Expr} {es:List Expr} {f:Fn} {m:AM} (hc:dI X (.builtin id) f) (hg:Gl X x) (hm:X.mg x=none) (hv:bootBuiltins x=some (.builtin id)) (ha:SA X (e::es) m) (hn:x≠"__name__":=by decide) (hdb:(x==("__debug__":Str))=false:=by kernel_rfl)
  (he:starEach (e::es) X.env=(false,eval e X.env)::starEach es X.env:=by kernel_rfl) (hpl:(backTo pos (starEach es X.env)).any (·.1)=false:=by kernel_rfl):SE X (.Call (.Name x p) (e::es) [] pos) (eFn f m):=
 (qE hc hg hm hv ha hn hdb he hpl).imp fun σ H Q ⟨ρ,δ,h,d,h',R,S,e,k⟩=>by
  obtain ⟨⟨ds,h1⟩,e1,e2⟩:=bnd e
  exact ⟨ρ,δ,h,ds,h1,R,S,e1,fun vs ρ1 H1 T1 S1 r1=>⟨ρ1,h1,ds,d,h',S1,r1,e2,fun v H' P=>k v H' (P.step T1)⟩⟩
theorem bD {x:Str} {id:String} {p pos:Pos} {e:Expr} {es:List Expr} {f:Fn} {m:AM} (hc:dI X (.type id) f) (hg:Gl X x) (hm:X.mg x=none) (hv:bootBuiltins x=some (.type id)) (ha:SA X (e::es) m) (hn:x≠"__name__":=by decide) (hdb:(x==("__debug__":Str))=false:=by kernel_rfl)
  (he:starEach (e::es) X.env=(false,eval e X.env)::starEach es X.env:=by kernel_rfl) (hpl:(backTo pos (starEach es X.env)).any (·.1)=false:=by kernel_rfl):SE X (.Call (.Name x p) (e::es) [] pos) (eFn f m):=
 (j4 hc hg hm hv ha hn hdb he hpl).imp fun σ H Q ⟨ρ,δ,h,d,h',R,S,e,k⟩=>by
  obtain ⟨⟨ds,h1⟩,e1,e2⟩:=bnd e
  exact ⟨ρ,δ,h,ds,h1,R,S,e1,fun vs ρ1 H1 T1 S1 r1=>⟨ρ1,h1,ds,d,h',S1,r1,e2,fun v H' P=>k v H' (P.step T1)⟩⟩
def cU:Fn:=fun ds h=>match ds with
 | [.str z]=>if z.length≤sizeLine then some (.int z.length,h) else none
 | [d]=>match cn d h with
  | some kvs=>some (.int kvs.length,h)
  | none=>(bY d h).map fun p=>(.int p.1.length,h)
 | _=>none
def wq:Fn:=fun ds h=>match ds with
 | [.int i]=>some (.int (if i < 0 then -i else i),h)
 | _=>none
def tyD (d:D) (h:MH):Option String:=match d with
 | .non=>some "NoneType"
 | .bl _=>some "bool"
 | .int _=>some "int"
 | .str _=>some "str"
 | .tup _=>some "tuple"
 | .lv _=>some "list"
 | .dv _=>some "dict"
 | .ob n=>match h[n]? with
  | some (.lst _)=>some "list"
  | some (.dct _)=>some "dict"
  | none=>none
 | _=>none
def p8 (t n:String):Bool:=t==n||(t=="bool"&&n=="int")
def wm:Fn:=fun ds h=>match ds with
 | [d,.ty n]=>if n∈["int","str","bool","tuple","list","dict"] then (tyD d h).map fun t=>(.bl (p8 t n),h) else none
 | _=>none
def cI:Fn:=fun ds h=>match ds with
 | [d]=>(bY d h).map fun p=>(.tup p.1,h)
 | _=>none
theorem rep1 {K:PySem.W.Frag} {ρ:Ad} {H:Hp} {vs:List V} {d:D} (l:RepL K ρ H vs [d]):∃v,vs=[v]∧Rep K ρ H v d:=by
 cases l with
 | cons r l=>cases l;exact ⟨_,rfl,r⟩
theorem rep2 {K:PySem.W.Frag} {ρ:Ad} {H:Hp} {vs:List V} {d e:D} (l:RepL K ρ H vs [d,e]):∃v u,vs=[v,u]∧Rep K ρ H v d∧Rep K ρ H u e:=by
 cases l with
 | cons r l=>cases l with
  | cons r' l=>cases l;exact ⟨_,_,rfl,r,r'⟩
theorem cy:dI X (.builtin "len") cU:=by
 intro pins s σ H xs us Q I r hh
 obtain ⟨ρ,h,ds,z,h',S,l,ee,k⟩:=hh
 match ds,l,ee with
 | [],_,ee=>cases ee
 | _::_::_,_,ee=>exact absurd ee (by unfold cU;split <;> simp_all)
 | [d],l,ee=>
  obtain ⟨v,rfl,rd⟩:=rep1 l
  have oth:(match cn d h with | some kvs=>some (D.int kvs.length,h) | none=>(bY d h).map fun p=>(D.int p.1.length,h))=some (z,h')→wpAny (model X.prog X.w) X.A (call (.builtin "len") us) (EP X pins σ Q) X.xe s:=by
   intro ee
   cases q:cn d h with
   | some kvs=>
    rw [q] at ee;cases ee
    obtain ⟨a,ws,rfl,ha,lk⟩:=fq S rd q
    refine pW pins s σ H _ us Q I r ⟨a,ws,rfl,ha,k _ _ ?_⟩
    rw [lk.length]
    exact .here S (.int _)
   | none=>
    rw [q] at ee
    obtain ⟨⟨ys,w⟩,e1,e2⟩:=mpd ee
    cases e2
    obtain ⟨a,vs,rfl,hq,l2⟩:=ij S rd e1
    refine lS pins s σ H _ us Q I r ⟨a,vs,rfl,hq,k _ _ ?_⟩
    rw [l2.length]
    exact .here S (.int _)
  cases d with
  | str x0=>
   unfold cU at ee
   dsimp only at ee
   by_cases c:x0.length≤sizeLine
   ·rw [if_pos c] at ee;cases ee
    cases rd
    exact lR pins s σ H _ us Q I r ⟨x0,rfl,c,k _ _ (.here S (.int _))⟩
   ·rw [if_neg c] at ee;cases ee
  | _=>exact oth ee
theorem rm:dI X (.builtin "abs") wq:=by
 intro pins s σ H xs us Q I r hh
 obtain ⟨ρ,h,ds,z,h',S,l,ee,k⟩:=hh
 match ds,l,ee with
 | [],_,ee=>cases ee
 | d::_::_,_,ee=>cases d <;> cases ee
 | [d],l,ee=>
  obtain ⟨v,rfl,rd⟩:=rep1 l
  cases rd <;> first | (cases ee;done) | skip
  cases ee
  exact rD pins s σ H _ us Q I r ⟨_,rfl,k _ _ (.here S (.int _))⟩
theorem cx:dI X (.type "tuple") cI:=by
 intro pins s σ H xs us Q I r hh
 obtain ⟨ρ,h,ds,z,h',S,l,ee,k⟩:=hh
 match ds,l,ee with
 | [],_,ee=>cases ee
 | _::_::_,_,ee=>cases ee
 | [d],l,ee=>
  obtain ⟨v,rfl,rd⟩:=rep1 l
  obtain ⟨⟨ys,w⟩,e1,e2⟩:=mpd ee
  cases e2
  obtain ⟨a,rfl,⟨vs,q,l2⟩,_⟩:=dO S rd e1
  refine jK pins s σ H _ us Q I r ⟨a,vs,rfl,?_⟩
  generalize hb:iZ d=b at q
  cases q with
  | l q=>exact .inl ⟨q,fun p hp=>k _ _ (.tup S l2 hp)⟩
  | t q=>
   refine .inr ⟨q,k _ _ ?_⟩
   cases rd <;> first | (cases hb;done) | skip
   cases e1
   exact .here S (.tup ‹_› ‹_›)
end
end Sm
namespace Sm
open PySem L2 PySem.Spec PyProof.Rows
section
variable {X:Cx}
theorem oN {K:PySem.W.Frag} {t n:String} (ht:t∈["NoneType","bool","int","str","tuple","list","dict"]) (hn:n∈["int","str","bool","tuple","list","dict"]):PySem.W.kitOne K (.type t) (.type n)=some (p8 t n):=by
 simp only [List.mem_cons,List.mem_nil_iff,or_false] at ht hn
 rcases ht with rfl | rfl | rfl | rfl | rfl | rfl | rfl <;> rcases hn with rfl | rfl | rfl | rfl | rfl | rfl <;> rfl
theorem wu:dI X (.builtin "isinstance") wm:=by
 intro pins s σ H xs us Q I r hh
 obtain ⟨ρ,h,ds,z,h',S,l,ee,k⟩:=hh
 match ds,l,ee with
 | [],_,ee=>cases ee
 | [_],_,ee=>cases ee
 | _::d::_::_,_,ee=>cases d <;> cases ee
 | [d,c],l,ee=>
  cases c <;> first | (cases ee;done) | skip
  rename_i n
  unfold wm at ee
  dsimp only at ee
  by_cases hn:n∈["int","str","bool","tuple","list","dict"]
  ·rw [if_pos hn] at ee
   obtain ⟨t,e1,e2⟩:=mpd ee
   cases e2
   obtain ⟨v,u,rfl,rd,ru⟩:=rep2 l
   cases ru
   have fin:=k (.bl (p8 t n)) H (.here S (.bl _))
   have go:∀ty,TyOf X.K H v (.type ty)→t=ty→ty∈["NoneType","bool","int","str","tuple","list","dict"]→wpAny (model X.prog X.w) X.A (call (.builtin "isinstance") us) (EP X pins σ Q) X.xe s:=fun ty hty e hm=>by
    subst e
    exact rC pins s σ H _ us Q I r ⟨v,n,_,_,rfl,hty,oN hm hn,fin⟩
   cases rd with
   | non=>cases e1;exact go _ .non rfl (by decide)
   | bl b=>cases e1;exact go _ (.bl b) rfl (by decide)
   | int i=>cases e1;exact go _ (.int i) rfl (by decide)
   | str h0=>cases e1;exact go _ (.str _) rfl (by decide)
   | ty _=>cases e1
   | ro _ _=>cases e1
   | lv h0 _ _=>cases e1;exact go _ (.lst h0) rfl (by decide)
   | dv h0 _ _=>cases e1;exact go _ (.dK h0) rfl (by decide)
   | @ob a m hm=>
    unfold tyD at e1
    dsimp only at e1
    cases q:h[m]? with
    | none=>rw [q] at e1;cases e1
    | some o=>
     rw [q] at e1
     have x:=S.at_ m a o hm q
     cases o with
     | lst _=>cases e1;obtain ⟨vs,e3,_⟩:=x;exact go _ (.lst e3) rfl (by decide)
     | dct _=>cases e1;obtain ⟨vs,e3,_⟩:=x;exact go _ (.dK e3) rfl (by decide)
   | @tup a vs ds h0 l0=>
    cases e1
    obtain ⟨u1,u2,rfl,r1,r2⟩:=Vals.two r
    obtain rfl:u1=Value.ref a:=r1
    obtain rfl:u2=Value.type n:=r2
    obtain ⟨its,_,⟨o,h1,h2,_⟩,_⟩:=I.tuple h0.sq
    exact PySem.W.kia_one PySem.W.kitx_tuple I.kIn ⟨o,h1,h2⟩ (oN (t:="tuple") (by decide) hn) (fun z=>nomatch z) fun tk=>⟨.bl _,H,I.tok tk,rfl,fin⟩
  ·rw [if_neg hn] at ee;cases ee
def rK (m:AM):AM:=fun δ h=>(m δ h).bind fun p=>match p.1 with
 | [d]=>(bY d p.2).map fun q=>(q.1,p.2)
 | _=>none
theorem sg {x:Str} {p pos:Pos} {e:Expr} {m:AM} (hg:Gl X x) (hm:X.mg x=none) (hv:bootBuiltins x=some (.type "list")) (ha:SA X [e] m) (hl:gv m 1) (hn:x≠"__name__":=by decide) (hdb:(x==("__debug__":Str))=false:=by kernel_rfl)
  (he:starEach [e] X.env=(false,eval e X.env)::starEach [] X.env:=by kernel_rfl) (hpl:(backTo pos (starEach [] X.env)).any (·.1)=false:=by kernel_rfl):SFL X (.Call (.Name x p) [e] [] pos) (rK m):=
 (j4 lQ hg hm hv ha hn hdb he hpl).imp fun σ H Q ⟨ρ,δ,h,d,h',R,S,e,k⟩=>by
  obtain ⟨⟨ds,h1⟩,e1,e2⟩:=bnd e
  refine ⟨ρ,δ,h,ds,h1,R,S,e1,fun vs ρ1 H1 T1 S1 r1=>?_⟩
  match ds,hl _ _ _ _ e1,e2,r1 with
  | [d],_,e2,r1=>
   obtain ⟨⟨ys,w⟩,e3,e4⟩:=mpd e2
   cases e4
   obtain ⟨v,rfl,rd⟩:=rep1 r1
   obtain ⟨a,ws,rfl,hq,l2⟩:=ij S1 rd e3
   exact ⟨a,ws,rfl,hq,fun l hl=>k ρ1 H1 l ws T1 S1 hl l2⟩
def jI (o i v:D) (h:MH):Option MH:=match o with
 | .ob n=>match h[n]? with
  | some (.lst xs)=>match i with
   | .int j=>(ixN xs.length j).map fun p=>h.set n (.lst (xs.set p v))
   | _=>none
  | some (.dct kvs)=>(iY i).bind fun k=>if kvs.length < sizeLine then some (h.set n (.dct (putD kvs k v))) else none
  | none=>none
 | _=>none
def jH (o i:EM):GM:=fun v δ h=>(o δ h).bind fun p=>(i δ p.2).bind fun q=>(jI p.1 q.1 v q.2).map fun h'=>(δ,h')
inductive RSETi (K:PySem.W.Frag) (o i v:V) (H:Hp) (Q:Hp→Prop):Prop where
 | mk (ρ h a b c h'):Sim K ρ h H→Rep K ρ H o a→Rep K ρ H i b→Rep K ρ H v c→(jI a b c h=some h')→(∀ρ' H',Stp ρ H ρ' H'→Sim K ρ' h' H'→Q H')→RSETi K o i v H Q
def yD (K:PySem.W.Frag):V→V→V→Hp→(Hp→Prop)→Prop:=fun o i v H Q=>RSETi K o i v H Q
theorem sJ (hu:X.A.units+64 < cLine):wI X (yD X.K):=by
 intro pins s σ H o i v ov iv u Q I ro ri rv hh
 obtain ⟨ρ,h,a,b,c,h',S,ra,rb,rc,ee,k⟩:=hh
 cases ra <;> first | (cases ee;done) | skip
 rename_i a n hn
 unfold jI at ee
 dsimp only at ee
 cases q:h[n]? with
 | none=>rw [q] at ee;cases ee
 | some w=>
  rw [q] at ee
  have x:=S.at_ n a w hn q
  have ma:=List.mem_of_getElem? hn
  cases w with
  | lst xs=>
   dsimp only at ee
   cases rb <;> first | (cases ee;done) | skip
   rename_i j
   obtain ⟨p,e1,e2⟩:=mpd ee
   cases e2
   obtain ⟨vs,e3,l⟩:=x
   have T:Stp ρ H ρ (upd H a (.lst (vs.set p v))):=Stp.wrote S ma
   exact set_list pins s σ H _ _ v ov iv u Q I ro ri rv ⟨a,vs,j,p,rfl,rfl,e3,by rw [l.length];exact e1,k ρ _ T (S.wrote hn ⟨_,aN,(l.set rc p).mono T.toCh⟩)⟩
  | dct kvs=>
   dsimp only at ee
   obtain ⟨ky,e1,e2⟩:=bnd ee
   by_cases z:kvs.length < sizeLine
   ·rw [if_pos z] at e2;cases e2
    obtain ⟨us,e3,l⟩:=x
    have ek:=fm rb e1
    subst ek
    obtain rfl:ov=Value.ref a:=ro
    have T:Stp ρ H ρ (upd H a (.dK (putK us ky v))):=Stp.wrote S ma
    exact pQ (by omega) I (t8.k e3 (by rw [l.length];exact z)) ri rv fun s' I'=>⟨_,I',k ρ _ T (S.wrote hn ⟨_,aN,(l.put rc).mono T.toCh⟩)⟩
   ·rw [if_neg z] at e2;cases e2
theorem gD {o i:Expr} {pos:Pos} {mo mi:EM} (hu:X.A.units+64 < cLine) (ho:SE X o mo) (hi:SE X i mi)
  (ha:∀v,assign (.Subscript o i pos) X.env v=(do
   let ov←holding [v] (eval o X.env)
   let iv←holding [v,ov] (eval i X.env)
   standAt pos
   holding [v,ov,iv] (setItem ov iv v)
   release [v,ov,iv] []):=by intro _;kernel_rfl):SG X (.Subscript o i pos) (jH mo mi):=
 (vm ho hi (sJ hu) ha).imp fun v σ H Q ⟨ρ,δ,h,d,δ',h',R,S,r,e,k⟩=>by
  obtain ⟨⟨x,h1⟩,e1,e2⟩:=bnd e
  obtain ⟨⟨y,h2⟩,e3,e4⟩:=bnd e2
  obtain ⟨h3,e5,e6⟩:=mpd e4
  cases e6
  exact ⟨ρ,δ,h,x,h1,R,S,e1,fun ov H1 ⟨ρ1,T1,S1,r1⟩=>⟨ρ1,δ,h1,y,h2,R.mono T1,S1,e3,fun iv H2 ⟨ρ2,T2,S2,r2⟩=>
   ⟨ρ2,h2,x,y,d,_,S2,r1.mono T2,r2,r.mono (T1.trans T2).toCh,e5,fun ρ3 H3 T3 S3=>k ρ3 H3 σ (T1.trans (T2.trans T3)) S3 (R.mono (T1.trans (T2.trans T3)).toCh)⟩⟩⟩
abbrev MFn:=D→List D→MH→Option (D×MH)
inductive RMi (K:PySem.W.Frag) (f:MFn) (x:V) (vs:List V) (H:Hp) (Q:VK):Prop where
 | mk (ρ h d ds z h'):Sim K ρ h H→Rep K ρ H x d→RepL K ρ H vs ds→(f d ds h=some (z,h'))→(∀v H',cp K ρ H h' z v H'→Q v H')→RMi K f x vs H Q
def rM (K:PySem.W.Frag) (f:MFn):V→List V→Hp→VK→Prop:=fun x vs H Q=>RMi K f x vs H Q
def eM (isT:D→MH→Bool) (f:MFn) (o:EM) (m:AM):EM:=fun δ h=>(o δ h).bind fun p=>if isT p.1 p.2 then (m δ p.2).bind fun q=>f p.1 q.1 q.2 else none
def fb (d:D) (h:MH):Bool:=(dD d h).isSome
def di:MFn:=fun d ds h=>match d,ds with
 | .ob n,[y]=>match h[n]? with
  | some (.lst xs)=>if xs.length < sizeLine then some (.non,h.set n (.lst (xs++[y]))) else none
  | _=>none
 | _,_=>none
theorem kF {K:PySem.W.Frag} {ρ:Ad} {H:Hp} {h:MH} {v:V} {d:D} (S:Sim K ρ h H) (r:Rep K ρ H v d) (e:fb d h=true):tyV K "list" v H:=by
 obtain ⟨xs,e1⟩:=Option.isSome_iff_exists.mp e
 obtain ⟨a,vs,rfl,ha,_⟩:=cZ S r e1
 exact .inl ⟨rfl,vs,SqL.of ha⟩
theorem sh {T id:String} {name:Str} {o e:Expr} {es:List Expr} {apos cpos:Pos} {f:MFn} {mo:EM} {m:AM} {isT:D→MH→Bool} (hT:∀{K:PySem.W.Frag} {ρ:Ad} {H:Hp} {h:MH} {v:V} {d:D},Sim K ρ h H→Rep K ρ H v d→isT d h=true→tyV K T v H)
  (pa:PlainAttrs T) (slot:Slot T name id) (hty:typeOf (.builtin id)=pure (.type "method_descriptor")) (hm:MtR X id (rM X.K f)) (ho:SE X o mo) (ha:SA X (e::es) m)
  (hbase:attributeBase o name X.env (eval o X.env)=eval o X.env:=by kernel_rfl)
  (hfew:((backTo cpos (starEach (e::es) X.env)).all (fun x=>!x.1)&&(backToKw cpos (keywordEach [] X.env)).all (fun x=>x.1.isSome)
   &&decide ((e::es).length+([]:List Keyword).length+(if ([]:List Keyword).isEmpty then 0 else 1) < 30))=true:=by kernel_rfl)
  (hline:(apos.endLine==cpos.line)=true:=by kernel_rfl) (hs:starEach (e::es) X.env=(false,eval e X.env)::starEach es X.env:=by kernel_rfl) (hplain:(backTo cpos (starEach es X.env)).any (·.1)=false:=by kernel_rfl):
  SE X (.Call (.Attribute o name apos) (e::es) [] cpos) (eM isT f mo m):=(xH pa slot hty hm ho ha hbase hfew hline hs hplain).imp fun σ H Q ⟨ρ,δ,h,d,h',R,S,e,k⟩=>by
 obtain ⟨⟨x,h1⟩,e1,e2⟩:=bnd e
 dsimp only at e2
 by_cases c:isT x h1=true
 ·rw [if_pos c] at e2
  obtain ⟨⟨ds,h2⟩,e3,e4⟩:=bnd e2
  exact ⟨ρ,δ,h,x,h1,R,S,e1,fun v H1 ⟨ρ1,T1,S1,r1⟩=>⟨hT S1 r1 c,ρ1,δ,h1,ds,h2,R.mono T1,S1,e3,fun vs ρ2 H2 T2 S2 r2=>⟨ρ2,h2,x,ds,d,h',S2,r1.mono T2,r2,e4,fun w H3 p=>k w H3 (p.step (T1.trans T2))⟩⟩⟩
 ·rw [if_neg c] at e2;cases e2
theorem vO {K:PySem.W.Frag} {ρ:Ad} {H:Hp} {h:MH} {n:Nat} {xs:List D} {v:V} (S:Sim K ρ h H) (r:Rep K ρ H v (.ob n)) (q:h[n]?=some (.lst xs)):∃a vs,v=.ref a∧ρ.ob[n]?=some a∧H a=some (.lst vs)∧RepL K ρ H vs xs:=by
 cases r with
 | ob hn=>obtain ⟨vs,e,l⟩:=S.at_ n _ _ hn q;exact ⟨_,vs,rfl,hn,e,l⟩
theorem fk:MtR X "list.append" (rM X.K di):=by
 intro pins s σ H x xs v us Q I rx rs hh
 obtain ⟨ρ,h,d,ds,z,h',S,rd,l,ee,k⟩:=hh
 cases d <;> first | (cases ee;done) | skip
 rename_i n
 match ds,l,ee with
 | [],_,ee=>cases ee
 | _::_::_,_,ee=>cases ee
 | [y],l,ee=>
  unfold di at ee
  dsimp only at ee
  cases q:h[n]? with
  | none=>rw [q] at ee;cases ee
  | some w=>
   rw [q] at ee
   cases w with
   | dct _=>cases ee
   | lst ys=>
    dsimp only at ee
    by_cases c:ys.length < sizeLine
    ·rw [if_pos c] at ee;cases ee
     obtain ⟨a,vs,rfl,hn,e1,l1⟩:=vO S rd q
     obtain ⟨u,rfl,ru⟩:=rep1 l
     have T:Stp ρ H ρ (upd H a (.lst (vs++[u]))):=Stp.wrote S (List.mem_of_getElem? hn)
     exact j6 pins s σ H _ _ v us Q I rx rs ⟨a,vs,u,rfl,rfl,e1,by rw [l1.length];exact c,k _ _ ⟨ρ,T,S.wrote hn ⟨_,aN,(l1.snoc ru).mono T.toCh⟩,.non⟩⟩
    ·rw [if_neg c] at ee;cases ee
end
end Sm
namespace Sb
open PySem L2 PySem.Spec PyProof.Rows
open Builtin.SmallTypes (nextOf ownedTupleIsFree ownedTupleHandOut)
def kn:Bool→String
 | true=>"list_iterator"
 | false=>"tuple_iterator"
def At (b:Bool) (h:Heap) (j l:Addr) (i:Nat):Prop:=∃o,h.get? j=some o∧o.cls=.type (kn b)∧o.data=.fields #[.ref l,.int i 0]
def Of (b:Bool) (h:Heap) (l:Addr) (items:Array Value):Prop:=match b with
 | true=>h.IsList l items
 | false=>h.IsTuple l items
variable {P:Program} {w:World} {A:Around} {E:Value→Shared→Prop} {s:Shared} {b c:Bool}
theorem At.up {h h':Heap} {j l:Addr} {i:Nat} (x:At b h j l i) (k:∀o,h.get? j=some o→h'.get? j=some o):At b h' j l i:=let ⟨o,e,r⟩:=x;⟨o,k o e,r⟩
theorem At.lt {h:Heap} {j l:Addr} {i:Nat} (x:At b h j l i):j < h.objs.size:=let ⟨_,e,_⟩:=x;Heap.lt_size e
theorem Of.data {h:Heap} {l:Addr} {items:Array Value} (x:Of b h l items):∃o n,h.get? l=some o∧o.data=.seq items n:=by
 cases b with
 | true=>obtain ⟨o,e,_,n,d⟩:=(show h.IsList l items from x);exact ⟨o,n,e,d⟩
 | false=>obtain ⟨o,e,_,n,d⟩:=(show h.IsTuple l items from x);exact ⟨o,n,e,d⟩
theorem Of.up {h h':Heap} {l:Addr} {items:Array Value} (x:Of b h l items) (k:∀o,h.get? l=some o→h'.get? l=some o):Of b h' l items:=by
 cases b with
 | true=>obtain ⟨o,e,r⟩:=(show h.IsList l items from x);exact ⟨o,k o e,r⟩
 | false=>obtain ⟨o,e,r⟩:=(show h.IsTuple l items from x);exact ⟨o,k o e,r⟩
theorem iV {j l:Addr} {i:Nat} {items:Array Value} {x:Value} {Q:Value→Shared→Prop} (hj:At b s.heap j l i) (hl:Of b s.heap l items) (hx:items[i]?=some x)
  (k:∀h',At b h' j l (i+1)→Heap.SameBut j s.heap h'→Q x {s with heap:=h'}):wpAny (model P w) A (nextOf (.ref j)) Q E s:=by
 cases b with
 | true=>exact wpAny_nextOf_list_item (show s.heap.IsListIter j l i from hj) (show s.heap.IsList l items from hl) hx k
 | false=>
  have hj':s.heap.IsTupleIter j l i:=hj
  obtain ⟨o,eo,ec,ed⟩:=hj'
  obtain ⟨ol,el,_,nl,edl⟩:=(show s.heap.IsTuple l items from hl)
  unfold nextOf
  refine wpAny_bind (wpAny_callSpecial?_slot (name:=Str.ofString "__next__") (show s.TypeIs (.ref j) "tuple_iterator" from ⟨o,eo,ec⟩) F.slot_tuple_iterator_next
   (wpAny_call_entry F.slot_tuple_iterator_next (show s.TypeIs (.ref j) "tuple_iterator" from ⟨o,eo,ec⟩) F.entry_tuple_iterator_next ?_ (F.args_tuple_iterator_next_1 _)))
  show wpAny _ _ (field (.ref j) 0 >>=_) _ _ s
  refine wpAny_bind (wpAny_field eo ed (x:=.ref l) rfl ?_)
  show wpAny _ _ (if (Value.ref l==Value.none)=true then _ else _) _ _ s
  rw [if_neg (show ¬((Value.ref l==Value.none)=true) by exact Bool.false_ne_true)]
  show wpAny _ _ (field (.ref j) 1 >>=_) _ _ s
  refine wpAny_bind (wpAny_field eo ed (x:=.int i 0) rfl ?_)
  show wpAny _ _ (seqItems? (.ref l) >>=_) _ _ s
  refine wpAny_bind (wpAny_seqItems el edl ?_)
  simp only [Int.toNat_natCast,hx]
  refine wpAny_bind (wpAny_setField eo ed (by simp) (wpAny_pure ⟨x,rfl,wpAny_pure (k _ ?_ (Heap.SameBut.update ..))⟩))
  exact ⟨_,Heap.get?_update_self _ eo (Obj.isFreed_of_fields (Obj.data_mapFields ed _)),(Obj.cls_mapFields ..).trans ec,by rw [Obj.data_mapFields ed];simp [rawInt]⟩
theorem mI {j l:Addr} {i:Nat} {items:Array Value} {Q:Value→Shared→Prop} (hh:A.handled=none) (hj:At b s.heap j l i) (hl:Of b s.heap l items) (hx:items[i]?=none)
  (k:∀h' e,Heap.ExtBut j s.heap h'→(∃o,h'.get? e=some o∧o.cls=.type "StopIteration")→E (.ref e) {s with heap:=h'}):wpAny (model P w) A (nextOf (.ref j)) Q E s:=by
 cases b with
 | true=>exact wpAny_nextOf_list_end hh (show s.heap.IsListIter j l i from hj) (show s.heap.IsList l items from hl) hx k
 | false=>
  have hj':s.heap.IsTupleIter j l i:=hj
  obtain ⟨o,eo,ec,ed⟩:=hj'
  obtain ⟨ol,el,_,nl,edl⟩:=(show s.heap.IsTuple l items from hl)
  unfold nextOf
  refine wpAny_bind (wpAny_callSpecial?_slot (name:=Str.ofString "__next__") (show s.TypeIs (.ref j) "tuple_iterator" from ⟨o,eo,ec⟩) F.slot_tuple_iterator_next
   (wpAny_call_entry F.slot_tuple_iterator_next (show s.TypeIs (.ref j) "tuple_iterator" from ⟨o,eo,ec⟩) F.entry_tuple_iterator_next ?_ (F.args_tuple_iterator_next_1 _)))
  show wpAny _ _ (field (.ref j) 0 >>=_) _ _ s
  refine wpAny_bind (wpAny_field eo ed (x:=.ref l) rfl ?_)
  show wpAny _ _ (if (Value.ref l==Value.none)=true then _ else _) _ _ s
  rw [if_neg (show ¬((Value.ref l==Value.none)=true) by exact Bool.false_ne_true)]
  show wpAny _ _ (field (.ref j) 1 >>=_) _ _ s
  refine wpAny_bind (wpAny_field eo ed (x:=.int i 0) rfl ?_)
  show wpAny _ _ (seqItems? (.ref l) >>=_) _ _ s
  refine wpAny_bind (wpAny_seqItems el edl ?_)
  simp only [Int.toNat_natCast,hx]
  refine wpAny_bind (wpAny_rule (wpAny_bind (wpAny_setField eo ed (by simp) ?_)))
  show wpAny _ _ (newExc (.type "StopIteration") [] >>=_) _ _ _
  refine wpAny_bind ?_
  simp only [newExc,newTuple];refine wpAny_bind (wpAny_newObj_type ?_ (by size_fits))
  refine wpAny_bind (m:=firstArgMember _ _) (wpAny_of_eq (a:=Value.none) (by first | (simp only [firstArgMember];rfl) | rfl) ?_)
  refine wpAny_newObj_type ?_ (by size_fits)
  simp only [raiseNew]
  refine wpAny_bind (wpAny_handled ?_)
  first | rw [hh] | rw [show A.in1.handled=none from hh]
  refine wpAny_bind (wpAny_pure (wpAny_throw (k _ _ (((Heap.SameBut.update ..).extBut.push _).push _) ⟨_,Heap.get?_push_size _ rfl,rfl⟩)))
end Sb
namespace Sb
open PySem L2 PySem.Spec PyProof.Rows
open Builtin.SmallTypes (nextOf ownedTupleIsFree ownedTupleHandOut)
variable {P:Program} {w:World} {A:Around} {E:Value→Shared→Prop} {s:Shared} {b c:Bool}
theorem qP {l:Addr} {items:Array Value} {Q:Value→Shared→Prop} (x:Of b s.heap l items) (k:Q (.ref s.heap.objs.size) {s with heap:=s.heap.push {cls:=.type (kn b),data:=.fields #[.ref l,.int 0 0]}}):wpAny (model P w) A (pyIter (.ref l)) Q E s:=by
 cases b with
 | true=>exact wpAny_pyIter_list (show s.heap.IsList l items from x) k
 | false=>exact wpAny_pyIter_tuple (show s.heap.IsTuple l items from x) k
theorem pO {e j l:Addr} {i:Nat} {items:Array Value} {x old:Value} {Q:Option Value→Shared→Prop} (hE:IsEnum s.heap e j i old) (hj:At b s.heap j l i) (hl:Of b s.heap l items) (hx:items[i]?=some x) (ne:e≠j)
  (k:∀h',IsEnumOut h' e j ((i:Int)+1) x s.heap.objs.size→At b h' j l (i+1)→h'.get? s.heap.objs.size=some {cls:=.type "tuple",data:=.seq #[.int i s.toks,x]}→h'.objs.size=s.heap.objs.size+1→
   (∀a o,a≠e→a≠j→s.heap.get? a=some o→h'.get? a=some o)→Q (some (.ref s.heap.objs.size)) {s with heap:=h',toks:=s.toks+1}):wpAny (model P w) A (pyNext (.ref e)) Q E s:=by
 have hT:s.TypeIs (.ref e) "enumerate":=⟨_,hE,rfl⟩
 unfold pyNext
 refine wpAny_bind (wpAny_attempt (wpAny_callSpecial?_slot (name:=Str.ofString "__next__") hT F.slot_enumerate_next (wpAny_call_entry F.slot_enumerate_next hT F.entry_enumerate_next ?_ (F.args_enumerate_next_1 _))))
 obtain ⟨hp,g,d,tk,os⟩:=s
 show wpAny _ _ (field (.ref e) 2 >>=_) _ _ _
 refine wpAny_bind (wpAny_field hE rfl (x:=.ref j) rfl (wpAny_bind (iV hj hl hx fun k₁ j₁ t₁=>?_)))
 replace t₁:Heap.SameBut j hp k₁:=t₁
 have E₁:IsEnum k₁ e j i old:=(t₁.2 e ne).trans hE
 show wpAny _ _ (field (.ref e) 3 >>=_) _ _ ⟨k₁,g,d,tk,os⟩
 refine wpAny_bind (wpAny_field E₁ rfl (x:=rawInt i) rfl ?_)
 show wpAny _ _ (field (.ref e) 4 >>=_) _ _ ⟨k₁,g,d,tk,os⟩
 refine wpAny_bind (wpAny_field E₁ rfl (x:=.none) rfl ?_)
 show wpAny _ _ (mkInt i >>=_) _ _ ⟨k₁,g,d,tk,os⟩
 refine wpAny_bind (wpAny_mkInt ?_)
 show wpAny _ _ (setField (.ref e) 3 (rawInt ((i:Int)+1)) >>=_) _ _ ⟨k₁,g,d,tk+1,os⟩
 refine wpAny_bind (wpAny_setField_rec E₁ (by simp) fun k₂ E₂ t₂=>?_)
 replace t₂:Heap.SameBut e k₁ k₂:=t₂
 replace E₂:IsEnum k₂ e j ((i:Int)+1) old:=E₂
 show wpAny _ _ (setField (.ref e) 4 .none >>=_) _ _ ⟨k₂,g,d,tk+1,os⟩
 refine wpAny_bind (wpAny_setField_rec E₂ (by simp) fun k₃ E₃ t₃=>?_)
 replace t₃:Heap.SameBut e k₂ k₃:=t₃
 replace E₃:IsEnum k₃ e j ((i:Int)+1) old:=E₃
 show wpAny _ _ (newTuple [.int i tk,x] >>=_) _ _ ⟨k₃,g,d,tk+1,os⟩
 refine wpAny_bind (wpAny_newTuple ?_)
 have E₄:IsEnum (k₃.push {cls:=.type "tuple",data:=.seq #[.int i tk,x]}) e j ((i:Int)+1) old:=Heap.get?_push_of_some _ E₃
 generalize eq₄:k₃.push {cls:=.type "tuple",data:=.seq #[.int i tk,x]}=k₄ at E₄
 have sz:k₃.objs.size=hp.objs.size:=by rw [t₃.1,t₂.1,t₁.1]
 have lte:e < hp.objs.size:=Heap.lt_size hE
 have tp:k₄.get? hp.objs.size=some {cls:=.type "tuple",data:=.seq #[.int i tk,x]}:=by rw [←eq₄,←sz];exact Heap.get?_push_size _ rfl
 have sz₄:k₄.objs.size=hp.objs.size+1:=by rw [←eq₄,Heap.size_push,sz]
 have up₄:∀a o,a≠e→a≠j→hp.get? a=some o→k₄.get? a=some o:=fun a o z1 z2 q=>by
  rw [←eq₄];exact Heap.get?_push_of_some _ (t₃.extBut a o z1 (t₂.extBut a o z1 (t₁.extBut a o z2 q)))
 have j₄:At b k₄ j l (i+1):=j₁.up fun o q=>by rw [←eq₄];exact Heap.get?_push_of_some _ (t₃.extBut j o (Ne.symm ne) (t₂.extBut j o (Ne.symm ne) q))
 show wpAny _ _ (ownedTupleIsFree (.ref e) >>=_) _ _ ⟨k₄,g,d,tk+1,os⟩
 rw [sz]
 clear eq₄ E₃ t₃ E₂ t₂ E₁ t₁ j₁ sz k₃ k₂ k₁
 refine wpAny_bind ?_
 unfold ownedTupleIsFree
 refine wpAny_bind (wpAny_field E₄ rfl (x:=.none) rfl (wpAny_pure ?_))
 simp only [if_true]
 refine wpAny_bind (wpAny_rule (wpAny_bind (wpAny_field E₄ rfl (x:=old) rfl (wpAny_bind (wpAny_setField_rec E₄ (by simp) fun k₅ E₅ t₅=>?_)))))
 replace t₅:Heap.SameBut e k₄ k₅:=t₅
 replace E₅:IsEnum k₅ e j ((i:Int)+1) x:=E₅
 show wpAny _ _ (ownedTupleHandOut (.ref e) (.ref hp.objs.size) >>=_) _ _ ⟨k₅,g,d,tk+1,os⟩
 refine wpAny_bind ?_
 unfold ownedTupleHandOut
 refine wpAny_bind (wpAny_setField_rec E₅ (by simp) fun k₆ E₆ t₆=>?_)
 replace t₆:Heap.SameBut e k₅ k₆:=t₆
 replace E₆:IsEnumOut k₆ e j ((i:Int)+1) x hp.objs.size:=E₆
 refine wpAny_setField_rec E₆ (by simp) fun k₇ E₇ t₇=>?_
 replace t₇:Heap.SameBut e k₆ k₇:=t₇
 replace E₇:IsEnumOut k₇ e j ((i:Int)+1) x hp.objs.size:=E₇
 have up:∀a o,a≠e→k₄.get? a=some o→k₇.get? a=some o:=fun a o z q=>t₇.extBut a o z (t₆.extBut a o z (t₅.extBut a o z q))
 refine wpAny_bind (wpAny_letGo (wpAny_pure ⟨_,rfl,wpAny_pure (k k₇ E₇ (j₄.up fun o q=>up j o (Ne.symm ne) q) (up _ _ (Nat.ne_of_gt lte) tp) ?_ fun a o z1 z2 q=>up a o z1 (up₄ a o z1 z2 q))⟩))
 rw [t₇.1,t₆.1,t₅.1,sz₄]
theorem q5 {e j l:Addr} {i:Nat} {items:Array Value} {old:Value} {Q:Option Value→Shared→Prop} (hh:A.handled=none) (hE:IsEnum s.heap e j i old) (hj:At b s.heap j l i) (hl:Of b s.heap l items) (hx:items[i]?=none)
  (k:∀h',Heap.ExtBut j s.heap h'→Q none {s with heap:=h'}):wpAny (model P w) A (pyNext (.ref e)) Q E s:=by
 have hT:s.TypeIs (.ref e) "enumerate":=⟨_,hE,rfl⟩
 unfold pyNext
 refine wpAny_bind (wpAny_attempt (wpAny_callSpecial?_slot (name:=Str.ofString "__next__") hT F.slot_enumerate_next (wpAny_call_entry F.slot_enumerate_next hT F.entry_enumerate_next ?_ (F.args_enumerate_next_1 _))))
 show wpAny _ _ (field (.ref e) 2 >>=_) _ _ _
 refine wpAny_bind (wpAny_field hE rfl (x:=.ref j) rfl (wpAny_bind (mI hh hj hl hx fun h' y he' ⟨o,ho,hc⟩=>?_)))
 exact wpAny_bind (wpAny_isInstance (T:="StopIteration") (b:=true) ⟨o,ho,hc⟩ isSubtype_stop (wpAny_pure (k _ he')))
theorem pN {l:Addr} {items:Array Value} {Q:Value→Shared→Prop} (x:Of b s.heap l items)
  (k:∀h',IsEnum h' (s.heap.objs.size+1) s.heap.objs.size 0 .none→At b h' s.heap.objs.size l 0→h'.objs.size=s.heap.objs.size+2→(∀a o,s.heap.get? a=some o→h'.get? a=some o)→Q (.ref (s.heap.objs.size+1)) {s with heap:=h'}):
  wpAny (model P w) A (call (.type "enumerate") [.ref l]) Q E s:=by
 cases b with
 | true=>exact call_enumerate_list (show s.heap.IsList l items from x) k
 | false=>
  have mt:PySem.Meets (Builtin.«enumerate.__new__» ⟨[.type "enumerate",.ref l],[]⟩) (fun _ R s=>s.heap.IsTuple l items∧
    R (.ok (.ret (.ref (s.heap.push {cls:=.type "tuple_iterator",data:=.fields #[.ref l,.int 0 0]}).objs.size)))
     {s with heap:=(s.heap.push {cls:=.type "tuple_iterator",data:=.fields #[.ref l,.int 0 0]}).push {cls:=.type "enumerate",data:=.fields #[.none,.bool false,.ref s.heap.objs.size,rawInt 0,.none,.none]}}):=
   .of_wp fun prog w A R s h=>by
    obtain ⟨hp,g,d,tk,os⟩:=s;obtain ⟨hl,h⟩:=h
    have sub:=sub_enumerate
    have hL:Heap.IsTuple (Shared.heap ⟨hp,g,d,tk,os⟩) l items:=hl
    obtain ⟨o0,e0,c0,n0,d0⟩:=id hL
    wp_walk
    refine wpAny_stack_any fun st=>wpAny_pure ?_
    split
    ·rename_i c _ _ _ _ _
     cases (c==Value.type "enumerate")
     ·wp_walk using wpAny_pyIter_tuple hL
      exact ⟨_,rfl,h⟩
     ·wp_walk using wpAny_pyIter_tuple hL
      exact ⟨_,rfl,h⟩
    ·wp_walk using wpAny_pyIter_tuple hL
     exact ⟨_,rfl,h⟩
  refine callType_new F.called_enumerate (by decide) (F.typeCall_enumerate_1 _) (F.newCall_enumerate_1 _) (fun obj=>F.args_object_init_2 obj _) F.entry_enumerate_new mt ⟨x,?_⟩
  have z1:(s.heap.push {cls:=.type "tuple_iterator",data:=.fields #[.ref l,.int 0 0]}).objs.size=s.heap.objs.size+1:=Heap.size_push ..
  show _∧_
  rw [z1]
  have eE:IsEnum ((s.heap.push {cls:=.type "tuple_iterator",data:=.fields #[.ref l,.int 0 0]}).push
    {cls:=.type "enumerate",data:=.fields #[.none,.bool false,.ref s.heap.objs.size,rawInt 0,.none,.none]}) (s.heap.objs.size+1) s.heap.objs.size 0 .none:=by
   have q:=Heap.get?_push_size (s.heap.push {cls:=.type "tuple_iterator",data:=.fields #[.ref l,.int 0 0]}) (o:={cls:=.type "enumerate",data:=.fields #[.none,.bool false,.ref s.heap.objs.size,rawInt 0,.none,.none]}) rfl
   rw [z1] at q;exact q
  refine ⟨⟨_,eE,rfl⟩,k _ eE ⟨_,Heap.get?_push_of_some _ (Heap.get?_push_size _ rfl),rfl,rfl⟩ (by rw [Heap.size_push,z1]) fun a o q=>Heap.get?_push_of_some _ (Heap.get?_push_of_some _ q)⟩
end Sb
namespace Sb
open PySem L2 PySem.Spec PyProof.Rows
open Builtin.SmallTypes (nextOf ownedTupleIsFree ownedTupleHandOut)
variable {P:Program} {w:World} {A:Around} {E:Value→Shared→Prop} {s:Shared} {b c:Bool}
structure Zp (z T U p q l m:Addr):Prop where
 Tz:T≠z
 Uz:U≠z
 pz:p≠z
 qz:q≠z
 TU:T≠U
 Tp:T≠p
 Tq:T≠q
 Up:U≠p
 Uq:U≠q
 pq:p≠q
 lz:l≠z
 lU:l≠U
 lp:l≠p
 lq:l≠q
 mz:m≠z
 mU:m≠U
 mp:m≠p
 mq:m≠q
theorem pY {z T U p q l m:Addr} {i:Nat} {xs ys:Array Value} {x y u v:Value} {Q:Option Value→Shared→Prop} (D:Zp z T U p q l m) (hz:IsZip s.heap z T U .none) (hT:IsPair s.heap T (.ref p) (.ref q)) (hU:IsPair s.heap U u v)
  (h1:At b s.heap p l i) (h2:At c s.heap q m i) (hl:Of b s.heap l xs) (hm:Of c s.heap m ys) (hx:xs[i]?=some x) (hy:ys[i]?=some y)
  (k:∀h',IsZip h' z T U (rawInt s.heap.objs.size)→IsPair h' U x y→At b h' p l (i+1)→At c h' q m (i+1)→IsPair h' s.heap.objs.size x y→h'.objs.size=s.heap.objs.size+1→
   (∀a o,a≠z→a≠U→a≠p→a≠q→s.heap.get? a=some o→h'.get? a=some o)→Q (some (.ref s.heap.objs.size)) {s with heap:=h'}):wpAny (model P w) A (pyNext (.ref z)) Q E s:=by
 have ty:s.TypeIs (.ref z) "zip":=⟨_,hz,rfl⟩
 unfold pyNext
 refine wpAny_bind (wpAny_attempt (wpAny_callSpecial?_slot (name:=Str.ofString "__next__") ty F.slot_zip_next (wpAny_call_entry F.slot_zip_next ty F.entry_zip_next ?_ (F.args_zip_next_1 _))))
 show wpAny _ _ (field (.ref z) 2 >>=_) _ _ _
 refine wpAny_bind (wpAny_field hz rfl (x:=.bool false) rfl ?_)
 show wpAny _ _ (field (.ref z) 3 >>=_) _ _ _
 refine wpAny_bind (wpAny_field hz rfl (x:=.ref T) rfl (wpAny_bind (wpAny_seqItems hT rfl ?_)))
 show wpAny _ _ (ownedTupleIsFree (.ref z) >>=_) _ _ _
 refine wpAny_bind ?_
 unfold ownedTupleIsFree
 refine wpAny_bind (wpAny_field hz rfl (x:=.none) rfl (wpAny_pure ?_))
 simp only [if_true]
 refine wpAny_bind (wpAny_rule (wpAny_bind (wpAny_field hz rfl (x:=.ref U) rfl (wpAny_bind (wpAny_setField_rec hz (by simp) fun k₁ z₁ t₁=>?_)))))
 replace z₁:IsZip k₁ z T U .ellipsis:=z₁
 refine wpAny_bind ?_
 simp only [List.zipIdx_cons,List.zipIdx_nil,List.forIn_cons,List.forIn_nil]
 refine wpAny_bind (wpAny_bind (wpAny_onRaise ?_))
 show wpAny _ _ (nextOf (.ref p) >>=_) _ _ _
 refine wpAny_bind (iV (h1.up fun o e=>t₁.extBut _ o D.pz e) (hl.up fun o e=>t₁.extBut _ o D.lz e) hx fun k₂ p₂ t₂=>wpAny_pure ?_)
 have U₂:IsPair k₂ U u v:=t₂.extBut _ _ D.Up (t₁.extBut _ _ D.Uz hU)
 refine wpAny_bind (wpAny_seqItems U₂ rfl (wpAny_bind (wpAny_updateSeq_pair U₂ fun k₃ U₃ t₃=>wpAny_bind (wpAny_letGo (wpAny_pure ?_)))))
 replace U₃:IsPair k₃ U x v:=U₃
 refine wpAny_bind (wpAny_bind (wpAny_onRaise ?_))
 show wpAny _ _ (nextOf (.ref q) >>=_) _ _ _
 refine wpAny_bind (iV (h2.up fun o e=>t₃.extBut _ o D.Uq.symm (t₂.extBut _ o D.pq.symm (t₁.extBut _ o D.qz e))) (hm.up fun o e=>t₃.extBut _ o D.mU (t₂.extBut _ o D.mp (t₁.extBut _ o D.mz e))) hy fun k₄ q₄ t₄=>wpAny_pure ?_)
 have U₄:IsPair k₄ U x v:=t₄.extBut _ _ D.Uq U₃
 refine wpAny_bind (wpAny_seqItems U₄ rfl (wpAny_bind (wpAny_updateSeq_pair U₄ fun k₅ U₅ t₅=>wpAny_bind (wpAny_letGo (wpAny_pure (wpAny_pure ?_))))))
 replace U₅:IsPair k₅ U x y:=U₅
 refine wpAny_bind (wpAny_seqItems U₅ rfl (wpAny_bind (wpAny_newTuple ?_)))
 have sz:k₅.objs.size=s.heap.objs.size:=by rw [t₅.1,t₄.1,t₃.1,t₂.1,t₁.1]
 have z₅:IsZip k₅ z T U .ellipsis:=t₅.extBut _ _ D.Uz.symm (t₄.extBut _ _ D.qz.symm (t₃.extBut _ _ D.Uz.symm (t₂.extBut _ _ D.pz.symm z₁)))
 have up₅:∀a o,a≠z→a≠U→a≠p→a≠q→s.heap.get? a=some o→k₅.get? a=some o:=fun a o a1 a2 a3 a4 e=>t₅.extBut _ _ a2 (t₄.extBut _ _ a4 (t₃.extBut _ _ a2 (t₂.extBut _ _ a3 (t₁.extBut _ _ a1 e))))
 have p₅:At b k₅ p l (i+1):=p₂.up fun o e=>t₅.extBut _ o D.Up.symm (t₄.extBut _ o D.pq (t₃.extBut _ o D.Up.symm e))
 have q₅:At c k₅ q m (i+1):=q₄.up fun o e=>t₅.extBut _ o D.Uq.symm e
 have zlt:z < k₅.objs.size:=Heap.lt_size z₅
 show wpAny _ _ (ownedTupleHandOut (.ref z) (.ref k₅.objs.size) >>=_) _ _ _
 refine wpAny_bind ?_
 unfold ownedTupleHandOut
 have z₆:IsZip (k₅.push {cls:=.type "tuple",data:=.seq #[x,y]}) z T U .ellipsis:=Heap.get?_push_of_some _ z₅
 refine wpAny_bind (wpAny_setField_rec z₆ (by simp) fun k₇ z₇ t₇=>?_)
 replace z₇:IsZip k₇ z T U (rawInt k₅.objs.size):=z₇
 refine wpAny_setField_rec z₇ (by simp) fun k₈ z₈ t₈=>?_
 replace z₈:IsZip k₈ z T U (rawInt k₅.objs.size):=z₈
 have up:∀a o,a≠z→k₅.get? a=some o→k₈.get? a=some o:=fun a o a1 e=>t₈.extBut _ _ a1 (t₇.extBut _ _ a1 (Heap.get?_push_of_some _ e))
 have T₈:IsPair k₈ k₅.objs.size x y:=t₈.extBut _ _ (Nat.ne_of_gt zlt) (t₇.extBut _ _ (Nat.ne_of_gt zlt) (Heap.get?_push_size _ rfl))
 have s8:k₈.objs.size=k₅.objs.size+1:=by rw [t₈.1,t₇.1,Heap.size_push]
 rw [sz] at z₈ T₈ s8
 refine wpAny_pure ⟨_,rfl,wpAny_pure ?_⟩
 show Q (some (.ref k₅.objs.size)) _
 rw [sz]
 exact k k₈ z₈ (up _ _ D.Uz U₅) (p₅.up fun o e=>up _ o D.pz e) (q₅.up fun o e=>up _ o D.qz e) T₈ s8 fun a o a1 a2 a3 a4 e=>up a o a1 (up₅ a o a1 a2 a3 a4 e)
theorem rR {z T U p q l m:Addr} {i:Nat} {xs ys:Array Value} {u v:Value} {Q:Option Value→Shared→Prop} (hh:A.handled=none) (D:Zp z T U p q l m) (hz:IsZip s.heap z T U .none) (hT:IsPair s.heap T (.ref p) (.ref q)) (hU:IsPair s.heap U u v)
  (h1:At b s.heap p l i) (h2:At c s.heap q m i) (hl:Of b s.heap l xs) (hm:Of c s.heap m ys) (he:xs[i]?=none∨ys[i]?=none)
  (k:∀h',(∀a o,a≠z→a≠U→a≠p→a≠q→s.heap.get? a=some o→h'.get? a=some o)→Q none {s with heap:=h'}):wpAny (model P w) A (pyNext (.ref z)) Q E s:=by
 have ty:s.TypeIs (.ref z) "zip":=⟨_,hz,rfl⟩
 unfold pyNext
 refine wpAny_bind (wpAny_attempt (wpAny_callSpecial?_slot (name:=Str.ofString "__next__") ty F.slot_zip_next (wpAny_call_entry F.slot_zip_next ty F.entry_zip_next ?_ (F.args_zip_next_1 _))))
 have fin:∀h' e,(∀a o,a≠z→a≠U→a≠p→a≠q→s.heap.get? a=some o→h'.get? a=some o)→(∃o,h'.get? e=some o∧o.cls=.type "StopIteration")→
   (fun e s'=>wpAny (model P w) A (isInstance e (.type "StopIteration")) (fun r s''=>(if r=true then Q none s'' else E e s'')) E s') (.ref e) {s with heap:=h'}:=fun h' e up ⟨o,ho,hc⟩=>
  wpAny_isInstance (T:="StopIteration") (b:=true) ⟨o,ho,hc⟩ isSubtype_stop (by rw [if_pos rfl];exact k h' up)
 show wpAny _ _ (field (.ref z) 2 >>=_) _ _ _
 refine wpAny_bind (wpAny_field hz rfl (x:=.bool false) rfl ?_)
 show wpAny _ _ (field (.ref z) 3 >>=_) _ _ _
 refine wpAny_bind (wpAny_field hz rfl (x:=.ref T) rfl (wpAny_bind (wpAny_seqItems hT rfl ?_)))
 show wpAny _ _ (ownedTupleIsFree (.ref z) >>=_) _ _ _
 refine wpAny_bind ?_
 unfold ownedTupleIsFree
 refine wpAny_bind (wpAny_field hz rfl (x:=.none) rfl (wpAny_pure ?_))
 simp only [if_true]
 refine wpAny_bind (wpAny_rule (wpAny_bind (wpAny_field hz rfl (x:=.ref U) rfl (wpAny_bind (wpAny_setField_rec hz (by simp) fun k₁ z₁ t₁=>?_)))))
 replace z₁:IsZip k₁ z T U .ellipsis:=z₁
 refine wpAny_bind ?_
 simp only [List.zipIdx_cons,List.zipIdx_nil,List.forIn_cons,List.forIn_nil]
 refine wpAny_bind (wpAny_bind (wpAny_onRaise ?_))
 show wpAny _ _ (nextOf (.ref p) >>=_) _ _ _
 cases ex:xs[i]? with
 | none=>
  refine wpAny_bind (mI hh (h1.up fun o e=>t₁.extBut _ o D.pz e) (hl.up fun o e=>t₁.extBut _ o D.lz e) ex fun k₂ e t₂ ⟨oe,hoe,hce⟩=>?_)
  have z₂:IsZip k₂ z T U .ellipsis:=t₂ _ _ D.pz.symm z₁
  have ez:e≠z:=fun r=>by subst r;rw [z₂] at hoe;cases hoe;simp at hce
  refine wpAny_setField_rec z₂ (by simp) fun k₃ _ t₃=>?_
  refine wpAny_bind (wpAny_isInstance (T:="StopIteration") (b:=true) ⟨oe,t₃.extBut _ _ ez hoe,hce⟩ isSubtype_stop (wpAny_pure (k _ fun a o a1 _ a3 _ r=>t₃.extBut _ _ a1 (t₂ _ _ a3 (t₁.extBut _ _ a1 r)))))
 | some x=>
  have ey:ys[i]?=none:=by rcases he with r | r;rw [ex] at r;cases r;exact r
  refine wpAny_bind (iV (h1.up fun o e=>t₁.extBut _ o D.pz e) (hl.up fun o e=>t₁.extBut _ o D.lz e) ex fun k₂ p₂ t₂=>wpAny_pure ?_)
  have U₂:IsPair k₂ U u v:=t₂.extBut _ _ D.Up (t₁.extBut _ _ D.Uz hU)
  refine wpAny_bind (wpAny_seqItems U₂ rfl (wpAny_bind (wpAny_updateSeq_pair U₂ fun k₃ U₃ t₃=>wpAny_bind (wpAny_letGo (wpAny_pure ?_)))))
  refine wpAny_bind (wpAny_bind (wpAny_onRaise ?_))
  show wpAny _ _ (nextOf (.ref q) >>=_) _ _ _
  refine wpAny_bind (mI hh (h2.up fun o e=>t₃.extBut _ o D.Uq.symm (t₂.extBut _ o D.pq.symm (t₁.extBut _ o D.qz e))) (hm.up fun o e=>t₃.extBut _ o D.mU (t₂.extBut _ o D.mp (t₁.extBut _ o D.mz e))) ey fun k₄ e t₄ ⟨oe,hoe,hce⟩=>?_)
  have z₄:IsZip k₄ z T U .ellipsis:=t₄ _ _ D.qz.symm (t₃.extBut _ _ D.Uz.symm (t₂.extBut _ _ D.pz.symm z₁))
  have ez:e≠z:=fun r=>by subst r;rw [z₄] at hoe;cases hoe;simp at hce
  refine wpAny_setField_rec z₄ (by simp) fun k₅ _ t₅=>?_
  refine wpAny_bind (wpAny_isInstance (T:="StopIteration") (b:=true) ⟨oe,t₅.extBut _ _ ez hoe,hce⟩ isSubtype_stop (wpAny_pure (k _ fun a o a1 a2 a3 a4 r=>t₅.extBut _ _ a1 (t₄ _ _ a4 (t₃.extBut _ _ a2 (t₂.extBut _ _ a3 (t₁.extBut _ _ a1 r)))))))
abbrev g1 (b:Bool) (h:Heap) (l:Addr):Heap:=h.push {cls:=.type (kn b),data:=.fields #[.ref l,.int 0 0]}
abbrev g2 (b c:Bool) (h:Heap) (l m:Addr):Heap:=(g1 b h l).push {cls:=.type (kn c),data:=.fields #[.ref m,.int 0 0]}
abbrev g3 (b c:Bool) (h:Heap) (l m:Addr):Heap:=(g2 b c h l m).push {cls:=.type "tuple",data:=.seq #[.ref h.objs.size,.ref (g1 b h l).objs.size]}
abbrev g4 (b c:Bool) (h:Heap) (l m:Addr):Heap:=(g3 b c h l m).push {cls:=.type "tuple",data:=.seq #[.none,.none]}
abbrev g5 (b c:Bool) (h:Heap) (l m:Addr):Heap:=(g4 b c h l m).push {cls:=.type "zip",data:=.fields #[.none,.bool false,.bool false,.ref (g2 b c h l m).objs.size,.ref (g3 b c h l m).objs.size]}
theorem rQ (b c:Bool) (l m:Addr) (xs ys:Array Value):PySem.Meets (Builtin.«zip.__new__» ⟨[.type "zip",.ref l,.ref m],[]⟩) (fun _ R s=>Of b s.heap l xs∧Of c s.heap m ys∧R (.ok (.ret (.ref (g4 b c s.heap l m).objs.size))) {s with heap:=g5 b c s.heap l m}):=
 .of_wp fun prog w A R s h=>by
  obtain ⟨hp,g,d,tk,os⟩:=s;obtain ⟨hl,hm,h⟩:=h
  have sub:=sub_zip
  have L1:Of b (Shared.heap ⟨hp,g,d,tk,os⟩) l xs:=hl
  have L2:Of c (Shared.heap ⟨hp.push {cls:=.type (kn b),data:=.fields #[.ref l,.int 0 0]},g,d,tk,os⟩) m ys:=hm.up fun o e=>Heap.get?_push_of_some _ e
  wp_walk using qP L1,qP L2
  exact ⟨_,rfl,h⟩
theorem l9 {l m:Addr} {xs ys:Array Value} {Q:Value→Shared→Prop} (hl:Of b s.heap l xs) (hm:Of c s.heap m ys)
  (k:∀h',IsZip h' (s.heap.objs.size+4) (s.heap.objs.size+2) (s.heap.objs.size+3) .none→IsPair h' (s.heap.objs.size+2) (.ref s.heap.objs.size) (.ref (s.heap.objs.size+1))→IsPair h' (s.heap.objs.size+3) .none .none→
   At b h' s.heap.objs.size l 0→At c h' (s.heap.objs.size+1) m 0→h'.objs.size=s.heap.objs.size+5→(∀a o,s.heap.get? a=some o→h'.get? a=some o)→Q (.ref (s.heap.objs.size+4)) {s with heap:=h'}):
  wpAny (model P w) A (call (.type "zip") [.ref l,.ref m]) Q E s:=by
 refine callType_new F.called_zip (by decide) (F.typeCall_zip_2 _ _) (F.newCall_zip_2 _ _) (fun obj=>F.args_object_init_3 obj _ _) F.entry_zip_new (rQ b c l m xs ys) ⟨hl,hm,?_⟩
 have z1:(g1 b s.heap l).objs.size=s.heap.objs.size+1:=Heap.size_push ..
 have z2:(g2 b c s.heap l m).objs.size=s.heap.objs.size+2:=by rw [Heap.size_push,z1]
 have z3:(g3 b c s.heap l m).objs.size=s.heap.objs.size+3:=by rw [Heap.size_push,z2]
 have z4:(g4 b c s.heap l m).objs.size=s.heap.objs.size+4:=by rw [Heap.size_push,z3]
 have z5:(g5 b c s.heap l m).objs.size=s.heap.objs.size+5:=by rw [Heap.size_push,z4]
 have e5:(g5 b c s.heap l m).get? (g4 b c s.heap l m).objs.size=some _:=Heap.get?_push_size _ rfl
 have e4:(g5 b c s.heap l m).get? (g3 b c s.heap l m).objs.size=some _:=Heap.get?_push_of_some _ (Heap.get?_push_size _ rfl)
 have e3:(g5 b c s.heap l m).get? (g2 b c s.heap l m).objs.size=some _:=Heap.get?_push_of_some _ (Heap.get?_push_of_some _ (Heap.get?_push_size _ rfl))
 have e2:(g5 b c s.heap l m).get? (g1 b s.heap l).objs.size=some _:=Heap.get?_push_of_some _ (Heap.get?_push_of_some _ (Heap.get?_push_of_some _ (Heap.get?_push_size _ rfl)))
 have e1:(g5 b c s.heap l m).get? s.heap.objs.size=some _:=Heap.get?_push_of_some _ (Heap.get?_push_of_some _ (Heap.get?_push_of_some _ (Heap.get?_push_of_some _ (Heap.get?_push_size _ rfl))))
 show _∧_
 rw [z2,z3,z4] at e5
 rw [z1,z2] at e3
 rw [z3] at e4
 rw [z1] at e2
 rw [z4]
 exact ⟨⟨_,e5,rfl⟩,k _ e5 e3 e4 ⟨_,e1,rfl,rfl⟩ ⟨_,e2,rfl,rfl⟩ z5 fun a o x=>Heap.get?_push_of_some _ (Heap.get?_push_of_some _ (Heap.get?_push_of_some _ (Heap.get?_push_of_some _ (Heap.get?_push_of_some _ x))))⟩
end Sb
namespace Sb
open PySem L2 PySem.Spec PyProof.Rows
section
variable {X:Cx} {pins:List (Addr×Obj)} {σ:L2.St} {H:Hp} {s:Shared} {h':Heap} {fp:List Addr}
theorem oC {t':Nat} (I:L2.Inv X pins σ H s) (k:∀b o,b∉fp→s.heap.get? b=some o→h'.get? b=some o) (hf:∀b∈fp,dg X pins H b):L2.Inv X pins σ H {s with heap:=h',toks:=t'}:=by
 have nit:∀b u,H b=some u→b∉fp:=fun b u e z=>by rw [(hf b z).1] at e;cases e
 have nL:X.env.locals∉fp:=fun z=>(hf _ z).2.1 rfl
 refine I.step (g':=s.gens) (d':=s.drawn) (ch:=fp) (fun b hb=>?_) (fun b o _ _ hc e _=>k b o hc e) (fun b o _ _ hc e _=>⟨o.slots,k b o hc e⟩) (fun _ _ _ _ n=>n)
  (fun b o hc e=>⟨o,k b o hc e⟩) (fun _ _ e=>e) (fun _ _ _ e=>e) (fun b ps e=>⟨#[],by rw [e];simp⟩) (fun m hm=>?_) (fun b u e=>?_) I.bare
 ·obtain ⟨f0,f1,f2,f3,f4,f5⟩:=hf b hb
  exact ⟨f3,f1,f4,f5⟩
 ·obtain ⟨o,es,ep,ho,r⟩:=hm
  exact ⟨o,es,ep,k _ o nL ho,r⟩
 ·refine (I.hok b u e).jr (fun c v hc q=>k c v ?_ q) (fun _ q=>q) fun _ _ q=>q
  rcases hc with z | z
  ·rw [z];exact nit b u e
  ·exact nit c _ z
theorem rT {t':Nat} {vs:List V} {us:List Value} {n:Nat} (I:L2.Inv X pins σ H s) (k:∀b o,b∉fp→s.heap.get? b=some o→h'.get? b=some o) (hf:∀b∈fp,dg X pins H b) (hlt:∀b∈fp,b < s.heap.objs.size)
  (ht:h'.get? s.heap.objs.size=some {cls:=.type "tuple",data:=.seq us.toArray n}) (r:Vals vs us) (hz:vs.length≤sizeLine):L2.Inv X pins σ (upd H s.heap.objs.size (.tup vs)) {s with heap:=h',toks:=t'}:=by
 have nit:∀b u,H b=some u→b∉fp:=fun b u e z=>by rw [(hf b z).1] at e;cases e
 have nL:X.env.locals∉fp:=fun z=>(hf _ z).2.1 rfl
 have hp:H s.heap.objs.size=none:=I.hok.fresh (Nat.le_refl _)
 have np:∀b o,s.heap.get? b=some o→b≠s.heap.objs.size:=fun b o e=>Nat.ne_of_lt (Heap.lt_size e)
 have nH:∀b u,H b=some u→b≠s.heap.objs.size:=fun b u e=>az e hp
 refine I.step (g':=s.gens) (d':=s.drawn) (ch:=fp) (fun b hb=>?_) (fun b o _ _ hc e _=>k b o hc e) (fun b o _ _ hc e _=>⟨o.slots,k b o hc e⟩) (fun b o _ e n=>by rw [av (np b o e)];exact n)
  (fun b o hc e=>⟨o,k b o hc e⟩) (fun b _ e=>by rw [av (nH b _ e)];exact e) (fun b _ _ e=>by rw [av (nH b _ e)];exact e) (fun b ps e=>⟨#[],by rw [av (nH b _ e),e];simp⟩) (fun m hm=>?_) (fun b u e=>?_) I.bare
 ·obtain ⟨f0,f1,f2,f3,f4,f5⟩:=hf b hb
  exact ⟨f3,f1,f4,f5⟩
 ·obtain ⟨o,es,ep,ho,q⟩:=hm
  exact ⟨o,es,ep,k _ o nL ho,q⟩
 ·by_cases z:b=s.heap.objs.size
  ·subst z
   rw [aN] at e
   cases e
   exact ⟨hz,us,r,⟨_,ht,rfl,⟨n,rfl⟩,rfl⟩⟩
  ·rw [av z] at e
   refine (I.hok b u e).jr (fun c v hc q=>k c v ?_ q) (fun c q=>?_) fun c u q=>?_
   ·rcases hc with y | y
    ·rw [y];exact nit b u e
    ·exact nit c _ y
   ·rw [av (nH _ _ q)];exact q
   ·rw [av (nH _ _ q)];exact q
end
def SqB (b:Bool) (K:PySem.W.Frag) (H:Hp) (l:Addr) (xs:List V):Prop:=match b with
 | true=>SqL K H l xs
 | false=>SqT K H l xs
theorem SqB.of {X:Cx} {pins:List (Addr×Obj)} {σ:L2.St} {H:Hp} {s:Shared} {b:Bool} {l:Addr} {xs:List V} (I:L2.Inv X pins σ H s) (q:SqB b X.K H l xs):∃its:List Value,Vals xs its∧Of b s.heap l its.toArray:=by
 cases b with
 | true=>obtain ⟨its,r,p,_⟩:=I.list (show SqL X.K H l xs from q);exact ⟨its,r,p.isList⟩
 | false=>obtain ⟨its,r,p,_⟩:=I.tuple (show SqT X.K H l xs from q);exact ⟨its,r,p⟩
theorem SqB.inj {X:Cx} {pins:List (Addr×Obj)} {σ:L2.St} {H:Hp} {s:Shared} {b:Bool} {l:Addr} {xs ys:List V} (I:L2.Inv X pins σ H s) (q:SqB b X.K H l xs) (q':SqB b X.K H l ys):xs=ys:=by
 cases b with
 | true=>exact I.mQ q q'
 | false=>exact I.jS q q'
def Ite (b:Bool) (K:PySem.W.Frag) (l:Addr):It:=
 ⟨fun i H=>∃xs x,SqB b K H l xs∧xs[i]?=some x,fun i H x H'=>∃p y,H p=none∧x=.ref p∧H'=upd H p (.tup [.int (i:Int),y])∧∀xs,SqB b K H l xs→xs[i]?=some y,fun i H=>∃xs,SqB b K H l xs∧xs.length≤i⟩
theorem o3 {P:Program} {w:World} {K:PySem.W.Frag} {es:List Expr} {k0:Nat} {pos:Pos} (b:Bool) (l e j:Addr) (ne:e≠j):Turn P w K (.Tuple es k0 pos) (Ite b K l) [e,j] e (fun i h=>(∃old,IsEnum h e j i old)∧At b h j l i) where
 mem:=by simp
 obj:=fun i h st a ha=>by
  obtain ⟨⟨old,h1⟩,o,h2,_,d2⟩:=st
  simp at ha
  rcases ha with rfl | rfl
  ·exact ⟨_,h1,fun v z=>by cases z⟩
  ·exact ⟨o,h2,fun v z=>by rw [d2] at z;cases z⟩
 keep:=fun i h h' ⟨⟨old,h1⟩,h2⟩ k=>⟨⟨old,k e (by simp) _ h1⟩,h2.up fun o q=>k j (by simp) o q⟩
 item:=by
  intro X hP hw hK hc i pins s σ H E I hf st hg
  subst hP hw hK
  obtain ⟨xs,x,hq,hx⟩:=hg
  obtain ⟨⟨old,h1⟩,h2⟩:=st
  obtain ⟨its,rv,hO⟩:=hq.of I
  obtain ⟨u,hu,ru⟩:=rv.get hx
  have hlt:∀a∈[e,j],a < s.heap.objs.size:=fun a ha=>by
   simp at ha
   rcases ha with rfl | rfl
   ·exact Heap.lt_size h1
   ·exact h2.lt
  refine pO h1 h2 hO (x:=u) (by simpa using hu) ne fun h' a1 a2 a3 a4 a5=>⟨_,rfl,wpAny_letOwnedTupleGo_enum a1 fun h'' b1 b2=>?_⟩
  have hp:H s.heap.objs.size=none:=I.hok.fresh (Nat.le_refl _)
  have I1:=rT (t':=s.toks+1) (vs:=[.int (i:Int),x]) (us:=[.int i s.toks,u]) (n:=0) I (fun a o ha q=>a5 a o (fun z=>ha (by simp [z])) (fun z=>ha (by simp [z])) q) hf hlt a3 (.cons ⟨_,rfl⟩ (.cons ru .nil)) (show 2≤sizeLine by decide)
  have hf1:∀a∈[e,j],dg X pins (upd H s.heap.objs.size (.tup [.int (i:Int),x])) a:=fun a ha=>by
   obtain ⟨f0,f⟩:=hf a ha
   exact ⟨by rw [av (Nat.ne_of_lt (hlt a ha))];exact f0,f⟩
  have I2:=oC (t':=s.toks+1) I1 (h':=h'') (fun a o ha q=>b2.extBut a o (fun z=>ha (by simp [z])) q) hf1
  exact ⟨.ref s.heap.objs.size,_,I2,rfl,⟨_,x,hp,rfl,rfl,fun ys hy=>by rw [hy.inj I hq];exact hx⟩,⟨⟨_,by simpa using b1⟩,a2.up fun o q=>b2.extBut j o (Ne.symm ne) q⟩,fun a ha=>(hf1 a ha).1⟩
 done:=by
  intro X hP hw hK hc i pins s σ H E I hf st hg
  subst hP hw hK
  obtain ⟨xs,hq,hx⟩:=hg
  obtain ⟨⟨old,h1⟩,h2⟩:=st
  obtain ⟨its,rv,hO⟩:=hq.of I
  have hl:=rv.length
  exact q5 (I.ok.hd hc) h1 h2 hO (by simp;omega) fun h' eb=>⟨rfl,oC (t':=s.toks) I (fun a o ha q=>eb a o (fun z=>ha (by simp [z])) q) hf⟩
 self:=fun A i s Q E ⟨⟨old,h1⟩,_⟩ q=>by
  have hT:s.TypeIs (.ref e) "enumerate":=⟨_,h1,rfl⟩
  refine wpAny_pyIter_slot hT F.slot_enumerate_iter (wpAny_call_entry F.slot_enumerate_iter hT F.entry_enumerate_iter ?_ (F.args_enumerate_iter_1 _))
  show wpAny _ _ (ret (.ref e)) _ _ s
  exact wpAny_pure ⟨_,rfl,"enumerate",_,hT,F.slot_enumerate_next.lookup,q⟩
end Sb
namespace Sb
open PySem L2 PySem.Spec PyProof.Rows
theorem boot_zip:bootBuiltins "zip"=some (.type "zip"):=by decide+kernel
theorem pX:bootBuiltins "enumerate"=some (.type "enumerate"):=by decide+kernel
theorem t9 (n l m:Nat) (hl:l < n) (hm:m < n):Zp (n+4) (n+2) (n+3) n (n+1) l m:=by
 constructor <;> (intro h;have h:(_:Nat)=_:=h;omega)
section
variable {X:Cx} {es:List Expr} {k0:Nat} {tpos:Pos}
theorem sR {a:Expr} {ta:TA} {p pos:Pos} (hg:Gl X "enumerate") (hm:X.mg "enumerate"=none) (ha:PA X [a] ta) (hs:starEach [a] X.env=[(false,eval a X.env)]:=by kernel_rfl):
  PI X (.Tuple es k0 tpos) (.Call (.Name "enumerate" p) [a] [] pos) (fun σ H R=>ta σ H fun vs H1=>∃l b,vs=[.ref l]∧(∃xs,SqB b X.K H1 l xs)∧R (Ite b X.K l) H1):=by
 intro pins s σ H R I h
 refine Call_ (c8 I hg hm pX (PyProof.Rows.callWith_type1 (thn (ha pos pins s σ H _ I h) fun us s1 ⟨vs,H1,I1,r1,q1⟩=>?_) hs rfl))
 obtain ⟨l,b,e,⟨xs,hq⟩,q⟩:=q1
 subst e
 obtain ⟨u,rfl,ru⟩:=Vals.one r1
 obtain rfl:u=Value.ref l:=ru
 obtain ⟨its,rv,hO⟩:=hq.of I1
 refine pN hO fun h' a1 a2 a3 a4=>?_
 have I2:L2.Inv X pins σ H1 {s1 with heap:=h'}:=I1.kept (t':=s1.toks) a4
 have hf:∀c∈[s1.heap.objs.size+1,s1.heap.objs.size],dg X pins H1 c:=fun c hc=>by
  simp at hc
  rcases hc with rfl | rfl
  ·exact I1.lG (Nat.le_succ _) (I1.hok.fresh (Nat.le_succ _))
  ·exact I1.lG (Nat.le_refl _) (I1.hok.fresh (Nat.le_refl _))
 have T:=o3 (P:=X.prog) (w:=X.w) (K:=X.K) (es:=es) (k0:=k0) (pos:=tpos) b l (s1.heap.objs.size+1) s1.heap.objs.size (Nat.succ_ne_self _)
 refine T.self X.A 0 {s1 with heap:=h'} _ X.xe ⟨⟨_,a1⟩,a2⟩ ?_
 exact ⟨_,[s1.heap.objs.size+1,s1.heap.objs.size],_,_,H1,rfl,I2,T,⟨⟨_,a1⟩,a2⟩,hf,q⟩
end
end Sb
namespace Sm
open PySem L2 PySem.Spec PyProof.Rows
def fz:Nat→List D→List D
 | _,[]=>[]
 | k,x::r=>.tup [.int (k:Int),x]::fz (k+1) r
def fQ:List D→List D→List D
 | x::r,y::s=>.tup [x,y]::fQ r s
 | _,_=>[]
theorem gO:∀(xs:List D) (k i:Nat),(fz k xs)[i]?=(xs[i]?).map fun x=>.tup [.int ((k+i:Nat):Int),x]
 | [],k,i=>by simp [fz]
 | x::r,k,0=>by simp [fz]
 | x::r,k,i+1=>by
  show (fz (k+1) r)[i]?=_
  rw [gO r (k+1) i]
  simp only [List.getElem?_cons_succ]
  congr 1
  funext y
  rw [show k+1+i=k+(i+1) by omega]
theorem et:∀(xs:List D) (k:Nat),(fz k xs).length=xs.length
 | [],_=>rfl
 | _::r,k=>by simp [fz,et r (k+1)]
theorem gS:∀(xs ys:List D),(fQ xs ys).length=min xs.length ys.length
 | [],_=>by simp [fQ]
 | _::_,[]=>by simp [fQ]
 | x::r,y::s=>by simp [fQ,gS r s]
theorem SeqAt.sqB {K:PySem.W.Frag} {H:Hp} {a:Addr} {vs:List V} {b:Bool} (q:SeqAt K H a vs b):Sb.SqB b K H a vs:=by
 cases q with
 | l q=>exact q
 | t q=>exact q
def qQ (m:AM):IM:=fun δ h=>(m δ h).bind fun p=>match p.1 with
 | [d]=>(bY d p.2).map fun q=>(fz 0 q.1,q.2,p.2)
 | _=>none
section
variable {X:Cx} {es:List Expr} {k0:Nat} {tpos:Pos} {a b:Expr} {p pos:Pos} {m:AM}
theorem r8 (hg:Gl X "enumerate") (hm:X.mg "enumerate"=none) (ha:SA X [a] m) (hl:gv m 1) (hs:starEach [a] X.env=[(false,eval a X.env)]:=by kernel_rfl):SI X (.Tuple es k0 tpos) (.Call (.Name "enumerate" p) [a] [] pos) (qQ m):=
 (Sb.sR hg hm ha hs).imp fun σ H Q ⟨ρ,δ,h,xs,ws,h',R,S,e,k⟩=>by
  obtain ⟨⟨ds,h1⟩,e1,e2⟩:=bnd e
  refine ⟨ρ,δ,h,ds,h1,R,S,e1,fun vs ρ1 H1 T1 S1 r1=>?_⟩
  match ds,hl _ _ _ _ e1,e2,r1 with
  | [d],_,e2,r1=>
   obtain ⟨⟨ys,w⟩,e3,e4⟩:=mpd e2
   cases e4
   obtain ⟨v,rfl,rd⟩:=rep1 r1
   obtain ⟨a,rfl,⟨us,q,l⟩,st⟩:=dO S1 rd e3
   refine ⟨a,iZ d,rfl,⟨us,q.sqB⟩,k _ ρ1 H1 T1 S1 ⟨fun ρ2 H2 h2 T2 S2 hc i=>?_⟩⟩
   obtain ⟨ws,l2,q2⟩:=st ρ2 H2 h2 T2 S2 hc
   refine ⟨fun hi=>⟨ws,q2.sqB,by rw [l2.length];rw [et] at hi;exact hi⟩,fun x hx=>?_⟩
   rw [gO] at hx
   obtain ⟨y,ey,hx⟩:=mpd hx
   subst hx
   obtain ⟨v,ev,rv⟩:=l2.got ey
   refine ⟨⟨ws,v,q2.sqB,ev⟩,fun u H3 ⟨p,y',hp,hu,hH,hy⟩=>?_⟩
   subst hu;subst hH
   have hy':y'=v:=by have:=hy ws q2.sqB;rw [ev] at this;exact (Option.some.inj this).symm
   subst hy'
   refine ⟨Stp.laid S2 hp,S2.laid hp,.tup (.inl ⟨.inl aN,S2.fresh hp⟩) (.cons ?_ (.cons (rv.mono (Stp.laid S2 hp).toCh) .nil))⟩
   rw [Nat.zero_add]
   exact .int _
end
end Sm
namespace Sm
open PySem L2 PySem.Spec PyProof.Rows
def lM (ls:List (Key×D)):List (Key×D)→Option Bool
 | []=>some true
 | (k,v)::r=>match gy ls k with
  | none=>some false
  | some u=>(pyD v).bind fun a=>(pyD u).bind fun b=>if a.depth≤60∧b.depth≤60 then (lM ls r).map fun c=>PyData.eqv a b&&c else none
def q9 (ks ls:List (Key×D)):Option Bool:=if ks.length=ls.length then lM ls ks else some false
def eqA (d e:D) (h:MH):Option Bool:=match cn d h,cn e h with
 | some ks,some ls=>q9 ks ls
 | _,_=>eqD d e h
def cP (d e:D) (h:MH):Option (D×MH):=(eqA d e h).map fun c=>(.bl c,h)
def fv (d e:D) (h:MH):Option (D×MH):=(eqA d e h).map fun c=>(.bl (!c),h)
section
variable {X:Cx}
theorem oQ {pins:List (Addr×Obj)} {σ:L2.St} {H:Hp} {s:Shared} {ρ:Ad} (hu:X.A.units+64 < cLine) (I:L2.Inv X pins σ H s) {vs:List (Key×V)} {ls:List (Key×D)} {kb:List (Key×Value)} (lb:RepK X.K ρ H vs ls) (rb:KV vs kb):
  ∀{us:List (Key×V)} {ks:List (Key×D)} {ka:List (Key×Value)} {c:Bool},RepK X.K ρ H us ks→KV us ka→lM ls ks=some c→PySem.W.KeqHits X.A.in1 s kb ka c
 | _,_,_,c,.nil,ra,e=>by
  cases ra
  cases e
  exact .nil
 | _,_,_,c,.cons (k:=k) (v:=v) (d:=d) r l,ra,e=>by
  cases ra with
  | cons ra rr=>
   rename_i p ka
   obtain ⟨k',y⟩:=p
   obtain ⟨ek,ry⟩:=ra
   dsimp only at ek ry
   subst ek
   simp only [lM] at e
   have rel:=rb.val k
   rcases lb.val k with ⟨h1,h2⟩ | ⟨d',v',h1,h2,r'⟩
   ·rw [h1] at e
    cases e
    rw [h2] at rel
    refine .miss ?_
    cases q:valueAt kb k with
    | none=>rfl
    | some _=>rw [q] at rel;exact rel.elim
   ·rw [h1] at e
    obtain ⟨a,e1,e⟩:=bnd e
    obtain ⟨b,e2,e⟩:=bnd e
    by_cases z:a.depth≤60∧b.depth≤60
    ·rw [if_pos z] at e
     obtain ⟨c',e3,e4⟩:=mpd e
     subst e4
     rw [h2] at rel
     cases q:valueAt kb k with
     | none=>rw [q] at rel;exact rel.elim
     | some y'=>
      rw [q] at rel
      obtain ⟨r1,c1⟩:=r.rds e1
      obtain ⟨r2,c2⟩:=r'.rds e2
      obtain ⟨as,ra1⟩:=r1.reads I ry
      obtain ⟨bs,ra2⟩:=r2.reads I rel
      refine .hit q (PySem.SeqAt.eqAt_reads a b _ s y y' as bs ra1 ra2 c1 c2 ?_) (oQ hu I lb rb l rr e3)
      have:min a.depth b.depth≤a.depth:=Nat.min_le_left _ _
      show X.A.units+1+min a.depth b.depth < cLine
      omega
    ·rw [if_neg z] at e;cases e
theorem q4 {pins:List (Addr×Obj)} {σ:L2.St} {H:Hp} {s:Shared} {ρ:Ad} {h:MH} {x y:V} {v u:Value} {d e:D} {c:Bool} (hu:X.A.units+64 < cLine) (I:L2.Inv X pins σ H s) (rx:L2.RelV x v) (ry:L2.RelV y u) (S:Sim X.K ρ h H) (rd:Rep X.K ρ H x d) (re:Rep X.K ρ H y e) (ee:eqA d e h=some c):
  (∀Q:Value→Shared→Prop,Q (.bool c) s→wpAny (model X.prog X.w) X.A (compareOp .Eq v u) Q X.xe s)∧∀Q:Value→Shared→Prop,Q (.bool (!c)) s→wpAny (model X.prog X.w) X.A (compareOp .NotEq v u) Q X.xe s:=by
 have data:eqD d e h=some c→(∀Q:Value→Shared→Prop,Q (.bool c) s→wpAny (model X.prog X.w) X.A (compareOp .Eq v u) Q X.xe s)∧∀Q:Value→Shared→Prop,Q (.bool (!c)) s→wpAny (model X.prog X.w) X.A (compareOp .NotEq v u) Q X.xe s:=by
  intro ee
  obtain ⟨a,e3,e4⟩:=bnd ee
  obtain ⟨b,e5,e6⟩:=bnd e4
  by_cases w:a.depth≤64∧b.depth≤64
  ·rw [if_pos w] at e6;cases e6
   obtain ⟨r1,c1⟩:=kS S rd e3
   obtain ⟨r2,c2⟩:=kS S re e5
   obtain ⟨as,ra⟩:=r1.reads I rx
   obtain ⟨bs,rb⟩:=r2.reads I ry
   exact ⟨fun Q q=>eq_dataH ra rb (fo c1 w.1) (fo c2 w.2) hu q,fun Q q=>ne_dataH ra rb (fo c1 w.1) (fo c2 w.2) hu q⟩
  ·rw [if_neg w] at e6;cases e6
 unfold eqA at ee
 cases q1:cn d h with
 | none=>rw [q1] at ee;exact data ee
 | some ks=>
  cases q2:cn e h with
  | none=>rw [q1,q2] at ee;exact data ee
  | some ls=>
   rw [q1,q2] at ee
   obtain ⟨a,us,rfl,ha,la⟩:=fq S rd q1
   obtain ⟨b,ws,rfl,hb,lb⟩:=fq S re q2
   obtain rfl:v=Value.ref a:=rx
   obtain rfl:u=Value.ref b:=ry
   obtain ⟨_,na,ka,ra,da⟩:=jc I.hok ha
   obtain ⟨_,nb,kb,rb,db⟩:=jc I.hok hb
   have l1:ka.length=ks.length:=by rw [←la.length];exact (Paired.length ra).symm
   have l2:kb.length=ls.length:=by rw [←lb.length];exact (Paired.length rb).symm
   dsimp only [q9] at ee
   by_cases z:ks.length=ls.length
   ·rw [if_pos z] at ee
    have hits:=oQ hu I lb rb la ra ee
    have ez:(ka.length==kb.length&&c)=c:=by rw [l1,l2,z,beq_self_eq_true,Bool.true_and]
    exact ⟨fun Q q=>PySem.W.keq_eq na nb da db (by omega) (fun _=>hits) (by rw [ez];exact q),fun Q q=>PySem.W.keq_ne na nb da db (by omega) (fun _=>hits) (by rw [ez];exact q)⟩
   ·rw [if_neg z] at ee
    cases ee
    have ez:(ka.length==kb.length&&false)=false:=Bool.and_false _
    have nh:ka.length=kb.length→PySem.W.KeqHits X.A.in1 s kb ka false:=fun q=>absurd (by rw [←l1,←l2];exact q) z
    exact ⟨fun Q q=>PySem.W.keq_eq na nb da db (by omega) nh (by rw [ez];exact q),fun Q q=>PySem.W.keq_ne na nb da db (by omega) nh (by rw [ez];exact q)⟩
theorem bK (hu:X.A.units+64 < cLine):OpS X (compareOp .Eq) cP:=by
 intro pins s σ H x y v u Q I rx ry hh
 obtain ⟨ρ,h,d,e,z,h',S,rd,re,ee,k⟩:=hh
 obtain ⟨c,e1,e2⟩:=mpd ee
 cases e2
 exact (q4 hu I rx ry S rd re e1).1 _ ⟨.bl _,H,I,rfl,k _ _ (.here S (.bl _))⟩
theorem iS (hu:X.A.units+64 < cLine):OpS X (compareOp .NotEq) fv:=by
 intro pins s σ H x y v u Q I rx ry hh
 obtain ⟨ρ,h,d,e,z,h',S,rd,re,ee,k⟩:=hh
 obtain ⟨c,e1,e2⟩:=mpd ee
 cases e2
 exact (q4 hu I rx ry S rd re e1).2 _ ⟨.bl _,H,I,rfl,k _ _ (.here S (.bl _))⟩
def fH:List D→Option (List (Key×D))
 | []=>some []
 | .tup [k,v]::r=>(iY k).bind fun k=>(fH r).map fun q=>(k,v)::q
 | _=>none
def d9 (acc:List (Key×D)) (ps:List (Key×D)):List (Key×D):=ps.foldl (fun a p=>putD a p.1 p.2) acc
def nW:Fn:=fun ds h=>match ds with
 | [d]=>match cn d h with
  | some kvs=>some (.dv kvs,h)
  | none=>(dD d h).bind fun xs=>(fH xs).bind fun ps=>if xs.length≤1000000 then some (.dv (d9 [] ps),h) else none
 | _=>none
theorem iR {K:PySem.W.Frag} {ρ:Ad} {H:Hp}:∀{vs:List V} {xs:List D} {ps:List (Key×D)},RepL K ρ H vs xs→fH xs=some ps→∃kvs,gu K H vs kvs∧RepK K ρ H kvs ps
 | _,_,_,.nil,e=>by cases e;exact ⟨[],.nil,.nil⟩
 | _,_,_,.cons r l,e=>by
  cases r <;> first | (cases e;done) | skip
  rename_i a ws ds h0 l0
  match ds,l0,e with
  | [],_,e=>cases e
  | [_],_,e=>cases e
  | _::_::_::_,_,e=>cases e
  | [k,v],l0,e=>
   obtain ⟨ky,e1,e2⟩:=bnd e
   obtain ⟨q,e3,e4⟩:=mpd e2
   subst e4
   obtain ⟨x,y,rfl,rk,rv⟩:=rep2 l0
   obtain ⟨kvs,p1,p2⟩:=iR l e3
   have ek:=fm rk e1
   subst ek
   exact ⟨(ky,y)::kvs,.cons ⟨a,rfl,h0.sq⟩ p1,.cons rv p2⟩
theorem RepK.merge {K:PySem.W.Frag} {ρ:Ad} {H:Hp}:∀{kvs:List (Key×V)} {ps:List (Key×D)} {acc:List (Key×V)} {ac:List (Key×D)},RepK K ρ H acc ac→RepK K ρ H kvs ps→RepK K ρ H (aA acc kvs) (d9 ac ps)
 | _,_,_,_,a,.nil=>a
 | _,_,acc,ac,a,.cons (k:=k) (v:=v) (d:=d) r l=>RepK.merge (acc:=putK acc k v) (ac:=putD ac k d) (a.put r) l
theorem rl (hc:X.calm=true):dI X (.type "dict") nW:=by
 intro pins s σ H xs us Q I r hh
 obtain ⟨ρ,h,ds,z,h',S,l,ee,k⟩:=hh
 match ds,l,ee with
 | [],_,ee=>cases ee
 | _::_::_,_,ee=>cases ee
 | [d],l,ee=>
  obtain ⟨v,rfl,rd⟩:=rep1 l
  unfold nW at ee
  dsimp only at ee
  cases q:cn d h with
  | some kvs=>
   rw [q] at ee
   cases ee
   obtain ⟨a,ws,rfl,ha,lk⟩:=fq S rd q
   obtain ⟨u,rfl,ru⟩:=Vals.one r
   obtain rfl:u=Value.ref a:=ru
   exact rf I (.inl ha) fun p s' hp I'=>⟨.ref p,_,I',rfl,k _ _ (.dv S lk hp)⟩
  | none=>
   rw [q] at ee
   obtain ⟨ys,e1,e2⟩:=bnd ee
   obtain ⟨ps,e3,e4⟩:=bnd e2
   by_cases c:ys.length≤1000000
   ·rw [if_pos c] at e4;cases e4
    obtain ⟨a,vs,rfl,ha,l2⟩:=cZ S rd e1
    obtain ⟨kvs,p1,p2⟩:=iR l2 e3
    exact jl hc pins s σ H _ us Q I r ⟨a,vs,kvs,rfl,ha,p1,by rw [l2.length];exact c,fun q hq=>k _ _ (.dv S (RepK.merge .nil p2) hq)⟩
   ·rw [if_neg c] at e4;cases e4
end
end Sm
namespace Sm
open PySem L2 PySem.Spec PyProof.Rows
theorem lT:bootBuiltins "list"=some (.type "list"):=by decide+kernel
theorem cA:bootBuiltins "tuple"=some (.type "tuple"):=by decide+kernel
theorem oV:bootBuiltins "dict"=some (.type "dict"):=by decide+kernel
theorem tZ:bootBuiltins "bool"=some (.type "bool"):=by decide+kernel
theorem oq:bootBuiltins "int"=some (.type "int"):=by decide+kernel
theorem cB:bootBuiltins "len"=some (.builtin "len"):=by decide+kernel
theorem rE:bootBuiltins "abs"=some (.builtin "abs"):=by decide+kernel
theorem jL:bootBuiltins "isinstance"=some (.builtin "isinstance"):=by decide+kernel
def uv (sc:Scope) (x:Str):Bool:=match sc.names.lookup x with
 | some .local=>true
 | some .cell=>true
 | some .free=>true
 | _=>false
def tG (sc:Scope) (x:Str):Bool:=match sc.names.lookup x with
 | some .local=>true
 | some .cell=>true
 | _=>false
def fnB (X:Cx) (x:Str):Bool:=X.fn x||(match X.env.scope.names.lookup x with
 | some .local=>true
 | _=>false)
theorem uu {sc:Scope} {x:Str} (h:uv sc x=true):Vis sc x:=by
 unfold uv at h
 split at h <;> first | (cases h;done) | skip
 ·exact .inl ‹_›
 ·exact .inr (.inl ‹_›)
 ·exact .inr (.inr ‹_›)
theorem qM {sc:Scope} {x:Str} (h:tG sc x=true):Loc sc x:=by
 unfold tG at h
 split at h <;> first | (cases h;done) | skip
 ·exact .inl ‹_›
 ·exact .inr ‹_›
theorem qT {X:Cx} {x:Str} (h:fnB X x=true):X.fn x=true∨X.env.scope.names.lookup x=some .local:=by
 unfold fnB at h
 rw [Bool.or_eq_true] at h
 rcases h with h | h
 ·exact .inl h
 ·split at h
  ·exact .inr ‹_›
  ·cases h
section
variable {X:Cx} {pos:Pos}
theorem sv (i:Nat) {x:Str} (hN:X.N[i]?=some x:=by kernel_rfl) (hv:uv X.env.scope x=true:=by kernel_rfl) (hd:(x==("__debug__":Str))=false:=by kernel_rfl)
  (hcd:(x==("__classdict__":Str))=false:=by kernel_rfl):SE X (.Name x pos) (af i):=uJ hN (uu hv) hd hcd
theorem sset (i:Nat) {x:Str} {pos':Pos} {e:Expr} {ma:EM} (hN:X.N.Nodup) (he:SE X e ma) (hi:X.N[i]?=some x:=by kernel_rfl) (hx:tG X.env.scope x=true:=by kernel_rfl) (hs:swapsWith e (some (.Name x pos')) pos.line X.env=pure false:=by kernel_rfl)
  (hf:fnB X x=true:=by kernel_rfl):SS X (.Assign [.Name x pos'] e pos) (aU i ma):=uE hN hi (qM hx) he hs (qT hf)
theorem sgn (i:Nat) {x:Str} (hN:X.N.Nodup) (hi:X.N[i]?=some x:=by kernel_rfl) (hx:tG X.env.scope x=true:=by kernel_rfl) (hf:fnB X x=true:=by kernel_rfl):SG X (.Name x pos) (gN i):=se hN hi (qM hx) (qT hf)
def pb (i j:Nat) (m:AM):SM:=fun δ h=>(m δ h).bind fun p=>match p.1 with
 | [a,b]=>some (.nx,(δ.set i (some a)).set j (some b),p.2)
 | _=>none
theorem rY (i j:Nat) {x y:Str} {a b:Expr} {m:AM} {px py pt:Pos} {kt k2 pt2} (hN:X.N.Nodup) (hl:gv m 2) (hc:X.calm=true) (hij:i≠j) (P:PS X (.Assign [.Tuple [.Name x px,.Name y py] kt pt] (.Tuple [a,b] k2 pt2) pos) (wZ i j (tMA X.K m))):
  SS X (.Assign [.Tuple [.Name x px,.Name y py] kt pt] (.Tuple [a,b] k2 pt2) pos) (pb i j m):=P.imp fun E σ H ⟨ρ,δ,h,fl,δ',h',R,S,e,k⟩=>by
 obtain ⟨⟨ds,h1⟩,e1,e2⟩:=bnd e
 refine ⟨ρ,δ,h,ds,h1,R,S,e1,fun vs ρ1 H1 T1 S1 r1=>?_⟩
 match ds,hl _ _ _ _ e1,e2,r1 with
 | [d,d'],_,e2,r1=>
  cases e2
  obtain ⟨v,u,rfl,rd,rd'⟩:=rep2 r1
  exact ⟨v,u,rfl,k ρ1 H1 T1 S1 _ (((R.mono T1.toCh).set rd i).set rd' j)⟩
structure Df (P:Program) (w:World) (K:PySem.W.Frag) (mg:Str→Option Value) (base:Heap) (nm:Str) (k:Nat) (ps:List Str) (n:Nat) (F:Fn):Prop where
 ex:∃(f:Addr) (fd:FuncData),FnOk P w K mg base CX0 k f fd ps (spF K n F)∧PySem.W.keepIn K (.ref f)=true∧Binds K fd ps []∧mg nm=some (.ref f)
theorem ay {nm:Str} {k k' n:Nat} {ps:List Str} {F:Fn} {e:Expr} {es:List Expr} {p:Pos} {m:AM} (d:Df X.prog X.w X.K X.mg X.base nm k ps n F) (hr:Room k' X.A) (hk:k≤k') (ha:SA X (e::es) m) (hl:gv m n) (hg:Gl X nm:=by unfold Gl;kernel_rfl) (hdb:(nm==("__debug__":Str))=false:=by kernel_rfl)
  (he:starEach (e::es) X.env=(false,eval e X.env)::starEach es X.env:=by kernel_rfl) (hpl:(backTo pos (starEach es X.env)).any (·.1)=false:=by kernel_rfl):SE X (.Call (.Name nm p) (e::es) [] pos) (eFn F m):=by
 obtain ⟨f,fd,G,kf,bf,mf⟩:=d.ex
 exact si G (hr.mono hk) hg mf kf bf ha hl hdb he hpl
theorem ip {P:Program} {w:World} {K:PySem.W.Frag} {mg:Str→Option Value} {base:Heap} {k n:Nat} {f:Addr} {fd:FuncData} {ps:List Str}:FnOk P w K mg base CX0 k f fd ps (spF K n fun _ _=>none):=
 ⟨fun vs H Q E hh=>(by obtain ⟨_,_,_,_,_,_,_,_,e,_⟩:=hh;cases e),fun A outer s H args us vs Q E _ _ _ _ hh=>(by obtain ⟨_,_,_,_,_,_,_,_,e,_⟩:=hh;cases e)⟩
end
end Sm
namespace L2
open PySem PySem.Spec PyProof.Rows
section
variable {B:Cx} {e:Expr} {d:Nat} {tg:Expr} {ifs:List Expr} {act:Sem Unit} {p:Pos} {it:Addr} {acc:Value} {g:TG} {tc:TT} {tm:TK}
end
end L2
namespace L2
open PySem PySem.Spec PyProof.Rows
section
variable {X:Cx} {N':List Str} {caps:List (Option Nat)} {scope:Scope} {e tg iter:Expr} {ifs:List Expr} {p:Pos} {wi:TI} {g:TG} {tc:TT} {tm:Addr→TK} {o:Addr→HO} {na:Sem Value} {act:Addr→Env→Sem Unit}
end
end L2
namespace Sm
open PySem L2 PySem.Spec PyProof.Rows
structure Ac (α:Type) where
 at_:PySem.W.Frag→Ad→Hp→Addr→α→Prop
 mono:∀{K:PySem.W.Frag} {ρ ρ':Ad} {H H':Hp} {l:Addr} {a:α},at_ K ρ H l a→Ch ρ H ρ' H'→H' l=H l→at_ K ρ' H' l a
abbrev MK (α:Type):=DS→MH→α→Option (DS×MH×α)
section
variable {α:Type} {K:PySem.W.Frag} {A:Ac α} {l:Addr} {g:GM} {mt:TM} {m:MK α}
end
section
variable {α:Type} {X:Cx} {A:Ac α} {g:GM} {mt:TM} {m:MK α} {mi:IM} {e tg iter:Expr} {ifs:List Expr} {d:Nat} {p:Pos} {act:Addr→Env→Sem Unit}
end
end Sm
namespace L2
open PySem PySem.Spec PyProof.Rows
section
variable {P:Program} {w:World} {A:Around} {E:Value→Shared→Prop} {s:Shared} {a:Addr} {ks:List Str} {x:Str} {u:Tok}
end
end L2
namespace L2
open PySem PySem.Spec PyProof.Rows
section
variable {P:Program} {w:World} {A:Around} {E:Value→Shared→Prop} {s:Shared} {a:Addr} {ks:List Str}
end
end L2
namespace L2
open PySem PySem.Spec PyProof.Rows
section
variable {P:Program} {w:World} {A:Around} {E:Value→Shared→Prop} {s:Shared} {a:Addr} {ks:List Str}
end
end L2
namespace L2
open PySem PySem.Spec PyProof.Rows
def leT (a b:Str):Bool:=!ltCps b.cps.toList a.cps.toList
theorem en {a b:Str}:leT a b=true↔strKind.kle a.cps.toList b.cps.toList:=by
 unfold leT KeyOrd.kle
 rw [ltCps_eq]
 simp
theorem kc (a b c:Str) (h1:leT a b=true) (h2:leT b c=true):leT a c=true:=en.mpr (KeyOrd.kle_trans (en.mp h1) (en.mp h2))
theorem pC (a b:Str):(leT a b||leT b a)=true:=by
 rw [Bool.or_eq_true]
 by_cases z:strKind.klt b.cps.toList a.cps.toList
 ·exact .inr (en.mpr (KeyOrd.kle_of_klt z))
 ·exact .inl (en.mpr (KeyOrd.kle_of_not_klt z))
theorem qN (a b:Str) (h1:leT a b=true) (h2:leT b a=true):a=b:=by
 have:=KeyOrd.kle_antisymm (en.mp h1) (en.mp h2)
 cases a;cases b
 congr 1
 exact Array.toList_inj.mp this
def eB (ks:List Str):List Str:=ks.mergeSort leT
theorem c5 (ks:List Str):(eB ks).Perm ks:=List.mergeSort_perm _ _
theorem kI (ks:List Str):(eB ks).Pairwise fun a b=>leT a b=true:=List.pairwise_mergeSort kc pC ks
theorem j3:∀(l:List Str) (p:Str),risingS p l=true→(p::l).Pairwise fun a b=>leT a b=true
 | [],p,_=>by simp
 | x::r,p,h=>by
  have h':(!ltCps x.cps.toList p.cps.toList&&risingS x r)=true:=h
  rw [Bool.and_eq_true] at h'
  have ih:=j3 r x h'.2
  refine List.pairwise_cons.mpr ⟨fun y hy=>?_,ih⟩
  rcases List.mem_cons.mp hy with rfl | hy
  ·exact h'.1
  ·exact kc _ _ _ h'.1 ((List.pairwise_cons.mp ih).1 y hy)
theorem qc {ss ks:List Str} (hp:ss.Perm ks) (h:sortedS ss=true):ss=eB ks:=by
 refine List.Perm.eq_of_pairwise (fun a b _ _=>qN a b) ?_ (kI ks) (hp.trans (c5 ks).symm)
 match ss,h with
 | [],_=>exact .nil
 | x::r,h=>exact j3 r x h
section
variable {P:Program} {w:World} {A:Around} {E:Value→Shared→Prop} {s:Shared} {a:Addr} {ks:List Str}
end
end L2
namespace L2
open PySem PySem.Spec PyProof.Rows
section
variable {B:Cx} {elt k v:Expr} {te tk tv:TE} {l:Addr}
end
end L2
namespace Sm
open PySem L2 PySem.Spec PyProof.Rows
section
variable {X:Cx} {elt k v:Expr} {me mk mv:EM}
theorem RepK.len {K:PySem.W.Frag} {ρ:Ad} {H:Hp}:∀{us:List (Key×V)} {ks:List (Key×D)},RepK K ρ H us ks→us.length=ks.length
 | _,_,.nil=>rfl
 | _,_,.cons _ r=>by rw [List.length_cons,List.length_cons,r.len]
end
end Sm
namespace L2
open PySem PySem.Spec PyProof.Rows
theorem jO:∀{us:List Value} {ss:List Str},StrsAre us ss→Vals (ss.map V.str) us
 | _,_,.nil=>.nil
 | _,_,.cons x t r=>.cons ⟨t,rfl⟩ (jO r)
end L2
namespace Sm
open PySem L2 PySem.Spec PyProof.Rows
section
variable {α:Type} {K:PySem.W.Frag} {A:Ac α} {g:GM} {mt:TM} {m:MK α}
end
section
variable {X:Cx} {k v tg iter elt tg2 iter2:Expr} {pos:Pos} {mk mv me:EM} {mt mt2:TM} {g g2:GM} {N':List Str} {caps:List (Option Nat)} {scope:Scope} {ifs ifs2:List Expr} {mi mi2:IM}
theorem jY {K:PySem.W.Frag} {ρ:Ad} {H:Hp}:∀(ss:List Str),(∀k∈ss,PyData.strOk k=true)→RepL K ρ H (ss.map V.str) (ss.map D.str)
 | [],_=>.nil
 | x::r,h=>.cons (.str (h x List.mem_cons_self)) (jY r fun k hk=>h k (List.mem_cons_of_mem _ hk))
end
end Sm
namespace L2
open PySem PySem.Spec PyProof.Rows
section
variable {X:Cx} {e st:Expr} {te ts:TE} {pos p2:Pos}
end
end L2
namespace Sm
open PySem L2 PySem.Spec PyProof.Rows
section
variable {X:Cx} {e st a b c:Expr} {ma ms mb mc:EM} {pos p2:Pos}
abbrev PrM:=DS→MH→Option (List (Key×D)×MH)
def vA:PrM:=fun _ h=>some ([],h)
def dC (k v:EM) (r:PrM):PrM:=fun δ h=>(k δ h).bind fun p=>(v δ p.2).bind fun q=>(iY p.1).bind fun kk=>(r δ q.2).map fun z=>((kk,q.1)::z.1,z.2)
inductive TPri (K:PySem.W.Frag) (m:PrM) (σ:L2.St) (H:Hp) (Q:List (V×V)→Hp→Prop):Prop where
 | mk (ρ δ h kvs h'):RepS K ρ H σ δ→Sim K ρ h H→(m δ h=some (kvs,h'))→(∀us ρ' H',Stp ρ H ρ' H'→Sim K ρ' h' H'→RepK K ρ' H' us kvs→Q (us.map fun kv=>(kV kv.1,kv.2)) H')→TPri K m σ H Q
def tPr (K:PySem.W.Frag) (m:PrM):L2.St→Hp→(List (V×V)→Hp→Prop)→Prop:=fun σ H Q=>TPri K m σ H Q
def SP (X:Cx) (pos:Pos) (keys:List (Option Expr)) (vals:List Expr) (m:PrM):Prop:=∃trs,PPs X pos keys vals trs∧∀σ H Q,tPr X.K m σ H Q→kG trs σ H Q
theorem uF:SP X pos [] [] vA:=⟨[],sM,fun σ H Q ⟨ρ,δ,h,kvs,h',R,S,e,k⟩=>by
 cases e
 exact k [] ρ H (.refl _ _) S .nil⟩
theorem fg {kx vx:Expr} {ks:List (Option Expr)} {vs:List Expr} {mk mv:EM} {m:PrM} (hk:SE X kx mk) (hv:SE X vx mv) (hr:SP X pos ks vs m):SP X pos (some kx::ks) (vx::vs) (dC mk mv m):=by
 obtain ⟨trs,h1,h2⟩:=hr
 refine ⟨_,qx hk hv h1,fun σ H Q ⟨ρ,δ,h,kvs,h',R,S,ee,k⟩=>?_⟩
 obtain ⟨⟨x,ha⟩,e1,e2⟩:=bnd ee
 obtain ⟨⟨y,hb⟩,e3,e4⟩:=bnd e2
 obtain ⟨kk,e5,e6⟩:=bnd e4
 obtain ⟨⟨zs,hz⟩,e7,e8⟩:=mpd e6
 cases e8
 refine ⟨ρ,δ,h,x,ha,R,S,e1,fun v H1 ⟨ρ1,T1,S1,r1⟩=>⟨ρ1,δ,ha,y,hb,R.mono T1.toCh,S1,e3,fun u H2 ⟨ρ2,T2,S2,r2⟩=>?_⟩⟩
 refine h2 σ H2 _ ⟨ρ2,δ,hb,zs,_,(R.mono T1.toCh).mono T2.toCh,S2,e7,fun us ρ3 H3 T3 S3 r3=>?_⟩
 have ek:=fm r1 e5
 subst ek
 exact k ((kk,u)::us) ρ3 H3 ((T1.trans T2).trans T3) S3 (.cons (r2.mono T3.toCh) r3)
end
end Sm
namespace L2
open PySem PySem.Spec PyProof.Rows
section
variable {prog:Program} {w:World} {A:Around} {E:Value→Shared→Prop} {s:Shared}
open HT in
theorem o4 {t sl:Addr} {items:Array Value} {vl vu:Value} {lo hi:Option Int} {Q:Value→Shared→Prop} (ht:IsTup s.heap t items) (hs:s.heap.IsSliceOf sl vl vu .none) (pl:IsPart vl lo) (pu:IsPart vu hi)
  (hw:sIx items.size 0 lo=0∧sIx items.size items.size hi=items.size) (h:Q (.ref t) s):wpAny (model prog w) A (getItem (.ref t) (.ref sl)) Q E s:=by
 obtain ⟨os,hos,hcs,hds⟩:=id hs
 have hTs:s.TypeIs (.ref sl) "slice":=⟨os,hos,hcs⟩
 unfold getItem
 try with_reducible refine wpAny_holding ?_
 first | refine wpAny_bind (wpAny_pure ?_) | skip
 refine wpAny_bind (wpAny_sequenceKey ht.typeIs (by decide) ?_)
 refine wpAny_bind (wpAny_callSpecial?_slot (name:=Str.ofString "__getitem__") ht.typeIs PyProof.Rows.slot_tuple_getitem (wpAny_call_entry PyProof.Rows.slot_tuple_getitem ht.typeIs entry_tuple_getitem ?_ (args_tuple_getitem _ _)))
 show wpAny _ _ (Builtin.Tuple.tupleItemsOf (.ref t) >>=_) _ _ s
 refine wpAny_bind (tupleItemsOf_ ht (wpAny_bind (wpAny_typeOf hTs ?_)))
 rw [if_pos (by decide)]
 refine wpAny_bind (dB hs pl pu ?_)
 show wpAny _ _ (if (((sIx items.size 0 lo:Nat):Int)==0&&(1:Int)==1&&(sIx items.size items.size hi-sIx items.size 0 lo)==items.size)=true then _ else _) _ _ s
 rw [if_pos (by rw [hw.1,hw.2];simp)]
 unfold Builtin.Tuple.tupleIsExact
 simp only [bind_assoc,pure_bind]
 refine wpAny_bind (wpAny_typeOf ht.typeIs ?_)
 rw [if_pos (by decide)]
 first
  | exact wpAny_bind (wpAny_rule (wpAny_pure ⟨_,rfl,wpAny_pure h⟩))
  | exact wpAny_bind (wpAny_rule (wpAny_bind (wpAny_pure (wpAny_pure ⟨_,rfl,wpAny_pure h⟩))))
end
section
variable {X:Cx}
def yx (K:PySem.W.Frag):V→Option Int→Option Int→Hp→VK→Prop:=fun x lo hi H Q=>∃a xs,x=.ref a∧SqT K H a xs∧(HT.sIx xs.length 0 lo=0∧HT.sIx xs.length xs.length hi=xs.length)∧Q (.ref a) H
theorem qe:SlR X (yx X.K):=by
 intro pins s σ H x v vl vu lo hi sl Q I rx hs pl pu h
 obtain ⟨a,xs,rfl,hx,hw,q⟩:=h
 cases rx
 obtain ⟨its,r,ht,hz⟩:=I.tuple hx
 have hlen:its.toArray.size=xs.length:=by rw [List.size_toArray];exact r.length.symm
 exact ⟨"tuple",_,PyProof.Rows.slot_tuple_getitem.lookup,ht.typeIs,o4 ht hs pl pu (by rw [hlen];exact hw) ⟨.ref a,H,I,rfl,q⟩⟩
end
end L2
namespace Sm
open PySem L2 PySem.Spec PyProof.Rows
section
variable {X:Cx}
def pJ (d:D) (lo hi:Option Int) (h:MH):Option (D×MH):=match d with
 | .tup xs=>if HT.sIx xs.length 0 lo=0∧HT.sIx xs.length xs.length hi=xs.length then some (.tup xs,h) else some (.tup (cutD xs lo hi),h)
 | d=>fSl d lo hi h
def nX (a:EM) (l u:PM):EM:=fun δ h=>(a δ h).bind fun p=>(l δ p.2).bind fun q=>(u δ q.2).bind fun r=>pJ p.1 q.1 r.1 r.2
inductive RSLAi (K:PySem.W.Frag) (x:V) (lo hi:Option Int) (H:Hp) (Q:VK):Prop where
 | mk (ρ h d z h'):Sim K ρ h H→Rep K ρ H x d→(pJ d lo hi h=some (z,h'))→(∀v H',cp K ρ H h' z v H'→Q v H')→RSLAi K x lo hi H Q
def yC (K:PySem.W.Frag):V→Option Int→Option Int→Hp→VK→Prop:=fun x lo hi H Q=>RSLAi K x lo hi H Q
theorem uD:SlR X (yC X.K):=by
 intro pins s σ H x v vl vu lo hi sl Q I rx hs pl pu hh
 obtain ⟨ρ,h,d,z,h',S,rd,ee,k⟩:=hh
 cases d with
 | tup xs=>
  unfold pJ at ee
  dsimp only at ee
  by_cases c:HT.sIx xs.length 0 lo=0∧HT.sIx xs.length xs.length hi=xs.length
  ·rw [if_pos c] at ee
   cases ee
   have rd0:=rd
   cases rd with | tup h0 l0=>
   exact qe pins s σ H _ v vl vu lo hi sl Q I rx hs pl pu ⟨_,_,rfl,h0.sq,by rw [l0.length];exact c,k _ _ (.here S rd0)⟩
  ·rw [if_neg c] at ee
   exact ub pins s σ H x v vl vu lo hi sl Q I rx hs pl pu ⟨ρ,h,_,z,h',S,rd,by unfold fSl;dsimp only;rw [if_neg c];exact ee,k⟩
 | _=>exact ub pins s σ H x v vl vu lo hi sl Q I rx hs pl pu ⟨ρ,h,_,z,h',S,rd,ee,k⟩
theorem kL {a:Expr} {lo hi:Option Expr} {pos p2:Pos} {ma:EM} {ml mu:PM} (ha:SE X a ma) (hl:SP' X lo ml) (hu:SP' X hi mu):SE X (.Subscript a (.Slice lo hi none p2) pos) (nX ma ml mu):=
 (qB uD ha hl hu).imp fun σ H Q ⟨ρ,δ,h,d,h',R,S,e,k⟩=>by
  obtain ⟨⟨x,h1⟩,e1,e2⟩:=bnd e
  obtain ⟨⟨l,h2⟩,e3,e4⟩:=bnd e2
  obtain ⟨⟨u,h3⟩,e5,e6⟩:=bnd e4
  exact ⟨ρ,δ,h,x,h1,R,S,e1,fun v H1 ⟨ρ1,T1,S1,r1⟩=>⟨ρ1,δ,h1,l,h2,R.mono T1.toCh,S1,e3,fun ρ2 H2 T2 S2=>⟨ρ2,δ,h2,u,h3,(R.mono T1.toCh).mono T2.toCh,S2,e5,fun ρ3 H3 T3 S3=>
   ⟨ρ3,h3,x,d,h',S3,r1.mono (T2.trans T3).toCh,e6,fun w H4 p=>k w H4 (p.step (T1.trans (T2.trans T3)))⟩⟩⟩⟩
def mW:Fn:=fun ds h=>match ds with
 | [.bl b]=>some (.int (if b then 1 else 0),h)
 | _=>none
theorem oh:dI X (.type "int") mW:=by
 intro pins s σ H xs us Q I r hh
 obtain ⟨ρ,h,ds,z,h',S,l,ee,k⟩:=hh
 match ds,l,ee with
 | [],_,ee=>cases ee
 | _::_::_,_,ee=>exact absurd ee (by unfold mW;split <;> simp_all)
 | [d],l,ee=>
  obtain ⟨v,rfl,rd⟩:=rep1 l
  cases rd <;> first | (cases ee;done) | skip
  cases ee
  obtain ⟨u,rfl,ru⟩:=Vals.one r
  cases ru
  exact call_int_bool ⟨.int _,H,I.kept (t':=s.toks+1) (h':=s.heap) fun _ _ e=>e,⟨_,rfl⟩,k _ _ (.here S (.int _))⟩
def dr (d e:D) (h:MH):Option (D×MH):=match d,e with
 | .str x,.int n=>if x.length≤1000∧0≤n∧n≤1000∧PyData.strOk (Txt.mul x n)=true then some (.str (Txt.mul x n),h) else none
 | d,e=>wk d e h
theorem cM:OpS X (binaryOp .Mult) dr:=by
 intro pins s σ H x y v u Q I rx ry hh
 obtain ⟨ρ,h,d,e,z,h',S,rd,re,ee,k⟩:=hh
 unfold dr at ee
 split at ee
 ·rename_i x0 n
  by_cases c:x0.length≤1000∧0≤n∧n≤1000∧PyData.strOk (Txt.mul x0 n)=true
  ·rw [if_pos c] at ee
   cases ee
   cases rd
   cases re
   obtain ⟨t1,rfl⟩:=rx
   obtain ⟨t2,rfl⟩:=ry
   obtain ⟨c1,c2,c3,c4⟩:=c
   refine SB.mul ⟨?_,fun _ _=>?_,fun _ _=>?_⟩ fun t' k'=>⟨.str _,H,I.kept (t':=k') (h':=s.heap) fun _ _ e=>e,⟨t',rfl⟩,k _ _ (.here S (.str c4))⟩
   ·rw [decide_eq_false (by omega),decide_eq_false (by omega)];rfl
   ·have h1:(9007199254740991:Int)≤(2^63-1) / n:=by
     refine Int.le_ediv_of_mul_le (by omega) ?_
     have:9007199254740991*n≤9007199254740991*1000:=Int.mul_le_mul_of_nonneg_left c3 (by decide)
     omega
    omega
   ·have h1:x0.length*n.toNat≤1000*1000:=Nat.mul_le_mul c1 (by omega)
    refine decide_eq_false ?_
    have:=sizeLine_eq
    omega
  ·rw [if_neg c] at ee;cases ee
 ·exact vB pins s σ H x y v u Q I rx ry ⟨ρ,h,_,_,z,h',S,rd,re,ee,k⟩
end
end Sm
namespace L2
open PySem PySem.Spec PyProof.Rows
section
variable {prog:Program} {w:World} {A:Around} {E:Value→Shared→Prop} {s:Shared}
open HT in
end
section
variable {X:Cx} {e st:Expr} {te ts:TE} {pos p2:Pos}
end
end L2
namespace Sm
open PySem L2 PySem.Spec PyProof.Rows
section
variable {X:Cx} {e st:Expr} {ma ms:EM} {pos p2:Pos}
end
end Sm
namespace L2
open PySem PySem.Spec PyProof.Rows
section
variable {prog:Program} {w:World} {A:Around} {E:Value→Shared→Prop} {s:Shared}
open HT in
theorem rB {t b:Addr} {vs ws:List Value} {Q:Value→Shared→Prop} (ht:IsTup s.heap t vs.toArray) (hb:IsTup s.heap b ws.toArray) (hv:vs=[]) (h:Q (.ref b) s):wpAny (model prog w) A (binaryOp .Add (.ref t) (.ref b)) Q E s:=by
 obtain ⟨⟨cls,dd,data,sl⟩,ho,hc,n,hd⟩:=id ht
 obtain ⟨⟨cls2,dd2,data2,sl2⟩,ho2,hc2,n2,hd2⟩:=id hb
 simp only at hc hd hc2 hd2
 subst hc hd hc2 hd2
 exact concat_meets ⟨_,ho,rfl⟩ ⟨_,ho2,rfl⟩ noFill_tuple_add seq_tuple_add PySem.F.slot_tuple_add PySem.F.entry_tuple_add (PySem.F.args_tuple_add_2 _ _)
   (tuple_addW0 t b vs.toArray ws.toArray n n2 dd dd2 sl sl2 (by simp [hv])) ⟨ho,ho2,h⟩
end
section
variable {X:Cx}
theorem qI:OpR X (binaryOp .Add) (fun x y H Q=>∃a b ys,x=.ref a∧y=.ref b∧SqT X.K H a []∧SqT X.K H b ys∧Q (.ref b) H):=by
 intro pins s σ H x y v u Q I rx ry h
 obtain ⟨a,b,ys,rfl,rfl,ha,hb,q⟩:=h
 cases rx
 cases ry
 obtain ⟨its,r1,p1,_⟩:=I.tuple ha
 obtain ⟨its2,r2,p2,_⟩:=I.tuple hb
 exact rB p1 p2 (r1.iq.mpr rfl) ⟨.ref b,H,I,rfl,q⟩
end
end L2
namespace Sm
open PySem L2 PySem.Spec PyProof.Rows
section
variable {X:Cx}
def aV (d e:D) (h:MH):Option (D×MH):=match d,e with
 | .tup [],.tup ys=>some (.tup ys,h)
 | d,e=>pM d e h
theorem aI:OpS X (binaryOp .Add) aV:=by
 intro pins s σ H x y v u Q I rx ry hh
 obtain ⟨ρ,h,d,e,z,h',S,rd,re,ee,k⟩:=hh
 unfold aV at ee
 split at ee
 ·cases ee
  have re0:=re
  cases rd with | tup h1 l1=>cases re with | tup h2 l2=>
  cases l1
  exact qI pins s σ H _ _ v u Q I rx ry ⟨_,_,_,rfl,rfl,h1.sq,h2.sq,k _ _ (.here S re0)⟩
 ·exact vE pins s σ H _ _ v u Q I rx ry ⟨ρ,h,_,_,z,h',S,rd,re,ee,k⟩
end
end Sm
namespace Sm
open PySem L2 PySem.Spec PyProof.Rows
section
variable {X:Cx}
def qW:Fn:=fun ds h=>match ds with
 | [.int i,.int j]=>some (.int (if j < i then j else i),h)
 | _=>none
def lL:Fn:=fun ds h=>match ds with
 | [.int i,.int j]=>some (.int (if j > i then j else i),h)
 | _=>none
theorem wt (hc:X.calm=true):dI X (.builtin "min") qW:=by
 intro pins s σ H xs us Q I r hh
 obtain ⟨ρ,h,ds,z,h',S,l,ee,k⟩:=hh
 match ds,l,ee with
 | [],_,ee=>cases ee
 | [_],_,ee=>exact absurd ee (by unfold qW;split <;> simp_all)
 | _::_::_::_,_,ee=>exact absurd ee (by unfold qW;split <;> simp_all)
 | [d,e],l,ee=>
  obtain ⟨v,w,rfl,rd,re⟩:=rep2 l
  cases rd <;> first | (cases ee;done) | skip
  cases re <;> first | (cases ee;done) | skip
  cases ee
  exact pU hc pins s σ H _ us Q I r ⟨_,_,rfl,k _ _ (.here S (.int _))⟩
theorem je (hc:X.calm=true):dI X (.builtin "max") lL:=by
 intro pins s σ H xs us Q I r hh
 obtain ⟨ρ,h,ds,z,h',S,l,ee,k⟩:=hh
 match ds,l,ee with
 | [],_,ee=>cases ee
 | [_],_,ee=>exact absurd ee (by unfold lL;split <;> simp_all)
 | _::_::_::_,_,ee=>exact absurd ee (by unfold lL;split <;> simp_all)
 | [d,e],l,ee=>
  obtain ⟨v,w,rfl,rd,re⟩:=rep2 l
  cases rd <;> first | (cases ee;done) | skip
  cases re <;> first | (cases ee;done) | skip
  cases ee
  exact pV hc pins s σ H _ us Q I r ⟨_,_,rfl,k _ _ (.here S (.int _))⟩
end
end Sm
namespace L2
open PySem PySem.Spec PyProof.Rows
section
variable {X:Cx} {a b:Expr} {rest:List Expr} {pos:Pos} {ta tb:TE}
end
end L2
namespace Sm
open PySem L2 PySem.Spec PyProof.Rows
section
variable {X:Cx} {a b:Expr} {pos:Pos} {ma mb:EM}
end
end Sm
namespace L2
open PySem PySem.Spec PyProof.Rows
section
variable {X:Cx} {pins:List (Addr×Obj)} {σ:St} {H:Hp} {s:Shared} {a:Addr} {o:Obj} {kvs:List (Key×V)}
end
end L2
namespace Sm
open PySem L2 PySem.Spec PyProof.Rows
section
variable {X:Cx}
end
theorem wy:bootBuiltins "min"=some (.builtin "min"):=by decide+kernel
theorem jm:bootBuiltins "max"=some (.builtin "max"):=by decide+kernel
end Sm
namespace Sm
open PySem L2 PySem.Spec PyProof.Rows
section
variable {X:Cx} {g:GM} {mt:TM} {ma:EM}
end
end Sm
namespace L2
open PySem PySem.Spec PyProof.Rows
section
variable {X:Cx}
end
end L2
namespace L2
open PySem PySem.Spec PyProof.Rows
section
variable {X:Cx}
theorem jU:∀{ss:List Str} {us:List Value},Vals (ss.map V.str) us→StrsAre us ss
 | [],_,.nil=>.nil
 | x::r,_,.cons q l=>by obtain ⟨t,rfl⟩:=q;exact .cons x t (jU l)
theorem om:cW X (.builtin "sorted") (fun xs H Q=>∃a ss,xs=[.ref a]∧SqL X.K H a (ss.map V.str)∧ss.length < 64∧∀l,H l=none→Q (.ref l) (upd H l (.lst ((eB ss).map V.str)))):=by
 intro pins s σ H xs us Q I r h
 obtain ⟨a,ss,rfl,ha,h64,q⟩:=h
 obtain ⟨u,rfl,ru⟩:=vals1 r
 cases ru
 obtain ⟨its,rv,p,hz⟩:=I.list ha
 have hS:=jU rv
 have hlen:its.length=ss.length:=by have:=rv.length;rw [List.length_map] at this;exact this.symm
 refine sorted_strs p.isList hS (by omega) fun out ss' h1 h2 h3=>?_
 have:=qc h2 h3
 subst this
 have hl:s.heap.objs.size≤s.heap.objs.size+1:=Nat.le_succ _
 obtain ⟨e,ho⟩:=sortedAll_at s.heap its out
 have hz':((eB ss).map V.str).length≤sizeLine:=by rw [List.length_map,(c5 ss).length_eq,sizeLine_eq];omega
 refine ⟨.ref (s.heap.objs.size+1),_,I.laid (t':=s.toks) (o:=.lst ((eB ss).map V.str)) (fun b o q=>sortedAll_old q) hl ⟨hz',out.toList,e,jO h1,?_⟩,rfl,q _ (I.hok.fresh hl)⟩
 rw [ho]
end
end L2
namespace Sm
open PySem L2 PySem.Spec PyProof.Rows
section
variable {X:Cx}
def i6:List D→Option (List Int)
 | []=>some []
 | .int i::r=>(i6 r).map fun is=>i::is
 | _=>none
theorem mR:∀{xs:List D} {ns:List Int},i6 xs=some ns→xs=ns.map D.int
 | [],_,e=>by cases e;rfl
 | d::r,ns,e=>by
  cases d <;> first | (cases e;done) | skip
  obtain ⟨is,e1,e2⟩:=mpd (show (i6 r).map _=some ns from e)
  cases e2
  rw [mR e1];rfl
theorem iI {K:PySem.W.Frag} {ρ:Ad} {H:Hp}:∀{vs:List V} {ns:List Int},RepL K ρ H vs (ns.map D.int)→vs=ns.map V.int
 | _,[],.nil=>rfl
 | _,n::r,.cons q l=>by cases q;rw [iI l];rfl
def iz:List D→Option (List Str)
 | []=>some []
 | .str i::r=>(iz r).map fun is=>i::is
 | _=>none
theorem mm:∀{xs:List D} {ns:List Str},iz xs=some ns→xs=ns.map D.str
 | [],_,e=>by cases e;rfl
 | d::r,ns,e=>by
  cases d <;> first | (cases e;done) | skip
  obtain ⟨is,e1,e2⟩:=mpd (show (iz r).map _=some ns from e)
  cases e2
  rw [mm e1];rfl
theorem jV:∀(ns:List Str),iz (ns.map D.str)=some ns
 | []=>rfl
 | n::r=>by show (iz (r.map D.str)).map _=_;rw [jV r];rfl
theorem iG {K:PySem.W.Frag} {ρ:Ad} {H:Hp}:∀{vs:List V} {ns:List Str},RepL K ρ H vs (ns.map D.str)→vs=ns.map V.str∧∀k∈ns,PyData.strOk k=true
 | _,[],.nil=>⟨rfl,fun _ h=>(nomatch h)⟩
 | _,n::r,.cons q l=>by
  cases q with
  | str h=>
   obtain ⟨e,f⟩:=iG l
   refine ⟨by rw [e];rfl,fun k hk=>?_⟩
   rcases List.mem_cons.mp hk with rfl | hk
   ·exact h
   ·exact f k hk
def qU:Fn:=fun ds h=>match ds with
 | [d]=>(dD d h).bind fun xs=>(iz xs).bind fun ns=>if ns.length < 64 then some (.lv ((eB ns).map D.str),h) else none
 | _=>none
theorem rg:dI X (.builtin "sorted") qU:=by
 intro pins s σ H xs us Q I r hh
 obtain ⟨ρ,h,ds,z,h',S,l,ee,k⟩:=hh
 match ds,l,ee with
 | [],_,ee=>cases ee
 | _::_::_,_,ee=>cases ee
 | [d],l,ee=>
  obtain ⟨v,rfl,rd⟩:=rep1 l
  obtain ⟨ys,e1,e2⟩:=bnd ee
  obtain ⟨ns,e3,e4⟩:=bnd e2
  by_cases c:ns.length < 64
  ·rw [if_pos c] at e4
   cases e4
   obtain ⟨a,vs,rfl,ha,la⟩:=cZ S rd e1
   have:=mm e3
   subst this
   obtain ⟨e5,f⟩:=iG la
   subst e5
   refine om pins s σ H _ us Q I r ⟨a,ns,rfl,SqL.of ha,c,fun l hl=>k _ _ (.lv S (jY _ fun x hx=>f x ((c5 ns).mem_iff.mp hx)) hl)⟩
  ·rw [if_neg c] at e4;cases e4
end
end Sm
namespace Sm
open PySem L2 PySem.Spec PyProof.Rows
section
variable {α:Type} {K:PySem.W.Frag} {A:Ac α} {l:Addr} {g:GM} {mt:TM} {m:MK α}
mutual
theorem Rep.calm {ρ ρ':Ad} {H:Hp} (hs:∀a,ρ'.has a→ρ.has a):∀{v:V} {d:D},Rep K ρ H v d→clD 0 d=true→Rep K ρ' H v d
 | _,_,.non,_=>.non
 | _,_,.bl b,_=>.bl b
 | _,_,.int i,_=>.int i
 | _,_,.str h,_=>.str h
 | _,_,.ty n,_=>.ty n
 | _,_,.tup h l,c=>.tup (h.elim (fun ⟨a,n⟩=>.inl ⟨a,fun z=>n (hs _ z)⟩) .inr) (RepL.calm hs l (by simpa [clD] using c))
 | _,_,.lv h n l,c=>.lv h (fun z=>n (hs _ z)) (RepL.calm hs l (by simpa [clD] using c))
 | _,_,.ro h l,c=>.ro (h.elim (fun ⟨a,n⟩=>.inl ⟨a,fun z=>n (hs _ z)⟩) .inr) (RepL.calm hs l (by simpa [clD] using c))
 | _,_,.dv h n l,c=>.dv h (fun z=>n (hs _ z)) (RepK.calm hs l (by simpa [clD] using c))
 | _,_,.ob e,c=>by simp [clD] at c
theorem RepL.calm {ρ ρ':Ad} {H:Hp} (hs:∀a,ρ'.has a→ρ.has a):∀{vs:List V} {ds:List D},RepL K ρ H vs ds→clL 0 ds=true→RepL K ρ' H vs ds
 | _,_,.nil,_=>.nil
 | _,_,.cons r l,c=>by
  simp [clL] at c
  exact .cons (Rep.calm hs r c.1) (RepL.calm hs l c.2)
theorem RepK.calm {ρ ρ':Ad} {H:Hp} (hs:∀a,ρ'.has a→ρ.has a):∀{vs:List (Key×V)} {ds:List (Key×D)},RepK K ρ H vs ds→clK 0 ds=true→RepK K ρ' H vs ds
 | _,_,.nil,_=>.nil
 | _,_,.cons r l,c=>by
  simp [clK] at c
  exact .cons (Rep.calm hs r c.1) (RepK.calm hs l c.2)
end
end
section
variable {X:Cx} {k v tg iter:Expr} {pos:Pos} {mk mv:EM} {mt:TM} {g:GM} {N':List Str} {caps:List (Option Nat)} {scope:Scope} {ifs:List Expr} {mi:IM}
end
theorem km:bootBuiltins "sorted"=some (.builtin "sorted"):=by decide+kernel
end Sm
namespace L2
open PySem PySem.Spec PyProof.Rows
theorem jF:typeLookup (.type "tuple") "keys"=pure none:=by rw [typeLookup_type,builtinLookup_eq_fast];kernel_rfl
theorem tD {prog:Program} {w:World} {A:Around} {E:Value→Shared→Prop} {s:Shared} {a:Addr} {xs:Array Value} {k:Nat} {sl:Array (Option Value)} {Q:Option Value→Shared→Prop}
  (hx:s.heap.get? a=some {cls:=.type "tuple",dict:=none,data:=.seq xs k,slots:=sl}) (hA:A.handled=none)
  (h:∀h' tk,(∀b o,s.heap.get? b=some o→h'.get? b=some o)→Q none {s with heap:=h',toks:=tk}):
  wpAny (model prog w) A (getAttr? (.ref a) "keys") Q E s:=by
 obtain ⟨hp,g,d,tk,os⟩:=s
 have hT:∀tk',(⟨hp,g,d,tk',os⟩:Shared).TypeIs (.ref a) "tuple":=fun _=>⟨_,hx,rfl⟩
 have f1:=sub_AttributeError
 have f3:=F.slot_tuple_getattribute.lookup
 have f4:=F.slot_tuple_getattribute.bind (.ref a)
 have f5:=am_tuple_getattr_none
 unfold getAttr? getAttrBy? getAttrBy
 repeat (any_goals (first | assumption | exact hT _ | ((with_reducible show wpAny _ _ (call (Value.builtin "tuple.__getattribute__") _ _) _ _ _);refine call_meets F.slot_tuple_getattribute (hT _) am_entry_tuple_getattribute (F.args_tuple_getattribute_2 _ _) (meets_getattribute_miss_tuple a xs k sl "keys" _ jF (by decide+kernel) (by decide)) ⟨hx,hA,fun h' tk' e hx'=>?_⟩) | wp_step))
 obtain ⟨t',u',he⟩:=hx'.there
 have hE:∀tk',(⟨h',g,d,tk',os⟩:Shared).TypeIs (.ref e) "AttributeError":=fun _=>⟨_,he,rfl⟩
 show wpAny _ _ (getattributeRaised _ _ _ _ _ _ _) _ _ _
 unfold getattributeRaised
 repeat (any_goals (first | assumption | exact hE _ | wp_step))
 exact h _ _ hx'.keeps
section
variable {X:Cx}
theorem SqT.off {K:PySem.W.Frag} {H:Hp} {a d:Addr} {ys:List V} {o:HO} (h:SqT K H a ys) (hd:H d=none):SqT K (upd H d o) a ys:=by
 rcases h with h | h
 ·rcases h with h | ⟨u,h⟩
  ·exact .inl (.inl (by rw [av (az h hd)];exact h))
  ·exact .inl (.inr ⟨u,by rw [av (az h hd)];exact h⟩)
 ·exact .inr h
theorem oa {A:Around} {pins:List (Addr×Obj)} {σ:St} {H:Hp} {p d it:Addr} {ys:List V} {kvs:List (Key×V)} {R:Result→Shared→Prop} (hA:A.handled=none) (hp:SqT X.K H p ys) (hr:gu X.K H ys kvs) (hl:ys.length≤1000000) (hd:H d=none)
  (hit:it≠X.env.locals∧(it∈X.ex∨X.s₀.heap.objs.size≤it)∧(∀x c,X.env.cells.lookup x=some c→c≠it)∧∀q∈X.pn++pins,q.1≠it) (hin:H it=none) (hid:it≠d)
  (h:∀s',Inv X pins σ (upd H d (.dK (aA [] kvs))) s'→R (.ok (.ret .none)) s'):∀(n i:Nat) (s:Shared),kvs.length-i=n→i≤kvs.length→s.heap.IsTupleIter it p i→Inv X pins σ (upd H d (.dK (aA [] (kvs.take i)))) s→
   codeAny (model X.prog X.w) A (.builtin "dict.update.loop" ⟨[.ref d,.ref it,rawInt i,.none],[]⟩) R s:=by
 have hlen:=Paired.length hr
 have hsz:sizeLine≥1000001:=by decide
 intro n
 induction n with
 | zero=>
  intro i s hn hi st I
  have ei:i=kvs.length:=by omega
  refine codeAny_builtin br ?_
  rw [Around.under_plainId aG _]
  obtain ⟨its,rv,pl,hz⟩:=I.tuple (hp.off (o:=.dK (aA [] (kvs.take i))) hd)
  have hl':=rv.length
  show wpAny _ _ (pyNext (.ref it) >>=_) _ _ s
  refine wpAny_bind (wpAny_pyNext_tuple_end hA st (show s.heap.IsTuple p its.toArray from pl) (by simp;omega) fun h' eb=>?_)
  show wpAny _ _ (Builtin.Dict.addKeywords d [] >>=fun _=>ret .none) _ _ _
  have I':=I.turned (t':=s.toks) (h':=h') (it:=it) (fun b o hb e=>eb b o hb e) (by rw [av hid];exact hin) hit.1 hit.2.1 hit.2.2.1 hit.2.2.2
  refine wpAny_bind (wpAny_pure (wpAny_pure ?_))
  rw [ei,List.take_length] at I'
  exact h _ I'
 | succ n ih=>
  intro i s hn hi st I
  have hi':i < kvs.length:=by omega
  refine codeAny_builtin br ?_
  rw [Around.under_plainId aG _]
  obtain ⟨its,rv,pl,hz⟩:=I.tuple (hp.off (o:=.dK (aA [] (kvs.take i))) hd)
  have hyi:ys[i]?=some (ys[i]'(by omega)):=List.getElem?_eq_getElem _
  generalize ys[i]'(by omega)=y at hyi
  obtain ⟨u,hu,ru⟩:=rv.get hyi
  obtain ⟨kv,hk,a,ea,hta⟩:=Paired.at hr hyi
  subst ea
  cases (show u=Value.ref a from ru)
  show wpAny _ _ (pyNext (.ref it) >>=_) _ _ s
  refine wpAny_bind (wpAny_pyNext_tuple_item st (show s.heap.IsTuple p its.toArray from pl) (x:=.ref a) (by simpa using hu) fun h' st' sb=>?_)
  have I':=I.turned (t':=s.toks) (h':=h') (it:=it) (fun b o hb e=>(sb.2 b hb).trans e) (by rw [av hid];exact hin) hit.1 hit.2.1 hit.2.2.1 hit.2.2.2
  have hta':SqT X.K (upd H d (.dK (aA [] (kvs.take i)))) a [kV kv.1,kv.2]:=hta.off hd
  obtain ⟨its2,rv2,pt,hz2⟩:=I'.tuple hta'
  obtain ⟨ku,vu,rfl,rk,rw2⟩:=vals2 rv2
  obtain ⟨ot,ht1,ht2,nt,ht3⟩:=id pt
  dsimp only
  refine wpAny_bind (wpAny_holding ?_)
  refine wpAny_bind (wpAny_tryCatch ?_)
  unfold Builtin.Dict.pairItems
  refine wpAny_bind (wpAny_typeOf pt.typeIs ?_)
  rw [if_pos (by decide)]
  refine wpAny_bind (wpAny_seqItems ht1 ht3 (wpAny_pure ?_))
  show wpAny _ _ (holding [ku,vu] (dictSet d ku vu)) _ _ _
  refine wpAny_holding ?_
  have ed:upd H d (.dK (aA [] (kvs.take i))) d=some (.dK (aA [] (kvs.take i))):=aN
  obtain ⟨z,hdm,vs,rel,dd⟩:=jc I'.hok ed
  have hz3:vs.length≤sizeLine:=by rw [←rel.length];exact z
  unfold dictSet
  refine wpAny_holding (wpAny_bind ((aW X.prog X.w).pyHash (eD rk) ?_))
  refine wpAny_dictSetHashed_pairs (hsz:=hz3) (eD rk) dd fun h2 dd' hs=>?_
  have he:∃q,h2.get? d=some q:=let ⟨q,_,_,hq,_⟩:=dd';⟨q,hq⟩
  have e2:putK (aA [] (kvs.take i)) kv.1 kv.2=aA [] (kvs.take (i+1)):=by
   rw [List.take_succ,hk,←eW]
   rfl
  have hl2:(putK (aA [] (kvs.take i)) kv.1 kv.2).length≤sizeLine:=by
   rw [e2]
   have:=cf (kvs.take (i+1)) []
   rw [List.length_take] at this
   simp only [List.length_nil] at this
   omega
  have I2:=ft (t':=s.toks+1) I' (by rw [ed];exact True.intro) hs he (gP (H':=upd (upd H d (.dK (aA [] (kvs.take i)))) d (.dK (putK (aA [] (kvs.take i)) kv.1 kv.2))) hl2 hdm (rel.put kv.1 rw2) dd')
  rw [kE,e2] at I2
  have hc:((i:Int)+1)=((i+1:Nat):Int):=by push_cast;rfl
  rw [hc]
  refine wpAny_pure ⟨plainId_quiet aG _,ih (i+1) _ (by omega) (by omega) ?_ I2⟩
  obtain ⟨oi,e1,e2,e3⟩:=st'
  exact ⟨oi,hs.extBut _ _ hid e1,e2,e3⟩
theorem ib (hc:X.calm=true):cW X (.type "dict") (fun xs H Q=>∃p ys kvs,xs=[.ref p]∧SqT X.K H p ys∧gu X.K H ys kvs∧ys.length≤1000000∧∀q,H q=none→Q (.ref q) (upd H q (.dK (aA [] kvs)))):=by
 intro pins s σ H xs us Q I r h
 obtain ⟨p,ys,kvs,rfl,hp,hr,hl,q⟩:=h
 obtain ⟨u,rfl,ru⟩:=vals1 r
 cases (show u=Value.ref p from ru)
 refine callType_codes (Q₁:=fun obj s₁=>obj=.ref s.heap.objs.size∧s₁={s with heap:=s.heap.push {cls:=.type "dict",data:=.dict #[]}}) F.kt_called_dict (F.kt_typeCall_dict_1 _) F.entry_dict_init (kt_code_dict_new _ ⟨rfl,rfl⟩) ?_
 rintro obj s₁ ⟨rfl,rfl⟩
 have hd:H s.heap.objs.size=none:=I.fresh
 have hnew:(s.heap.push {cls:=.type "dict",data:=.dict #[]}).DictOf (aW X.prog X.w) s.heap.objs.size []:=Heap.DictOf.new s.heap
 have I1:Inv X pins σ (upd H s.heap.objs.size (.dK [])) {s with heap:=s.heap.push {cls:=.type "dict",data:=.dict #[]}}:=I.laid (t':=s.toks) (fun _ _ q=>Heap.get?_push_of_some _ q) (Nat.le_refl _) (fe s.heap I.big)
 refine ⟨hnew.typeIs,F.args_dict_init_2 _ _,?_⟩
 obtain ⟨its,rv,⟨⟨cl,dc,da,sl⟩,hx,hcl,⟨n,hdt⟩,hdc⟩,hz⟩:=I1.uz (hp.off (o:=.dK []) hd)
 dsimp only at hcl hdt hdc
 subst hcl hdt hdc
 have hA:X.A.handled=none:=I.ok.hd hc
 unfold Builtin.«dict.__init__»
 refine wpAny_bind ?_
 unfold Builtin.Dict.selfAndRest
 refine wpAny_bind (wpAny_notOrdered_dict hnew.typeIs ?_)
 show wpAny _ _ (pure (s.heap.objs.size,[Value.ref p])) _ _ _
 refine wpAny_pure ?_
 show wpAny _ _ (Builtin.Dict.updateFrom "dict.__init__" s.heap.objs.size (.ref p) [] .none) _ _ _
 unfold Builtin.Dict.updateFrom
 refine wpAny_bind (wpAny_typeOf (T:="tuple") ⟨_,hx,rfl⟩ ?_)
 rw [if_pos (by decide)]
 refine wpAny_bind (tD hx (by exact hA) fun h2 tk keep=>?_)
 have I2:=I1.kept (t':=tk) keep
 have hx2:=keep _ _ hx
 have hil:h2.IsTuple p its.toArray:=⟨_,hx2,rfl,_,rfl⟩
 simp only [Option.isNone_none,if_true]
 refine wpAny_bind (wpAny_rule (wpAny_bind (wpAny_pyIter_tuple hil ?_)))
 have I3:Inv X pins σ (upd H s.heap.objs.size (.dK [])) {s with heap:=h2.push {cls:=.type "tuple_iterator",data:=.fields #[.ref p,.int 0 0]},toks:=tk}:=I2.kept (t':=tk) fun b o e=>Heap.get?_push_of_some _ e
 have hfp:=I2.lG (b:=h2.objs.size) (H':=upd H s.heap.objs.size (.dK [])) (Nat.le_refl _) (I2.hok.fresh (Nat.le_refl _))
 obtain ⟨f0,f1,f2,f3,f4,f5⟩:=hfp
 have hne:h2.objs.size≠s.heap.objs.size:=by
  intro z
  rw [z,aN] at f0
  cases f0
 have hin:H h2.objs.size=none:=by rw [av hne] at f0;exact f0
 refine wpAny_pure ⟨plainId_quiet aG _,?_⟩
 exact oa (X:=X) (σ:=σ) (H:=H) (kvs:=kvs) (by exact hA) hp hr hl hd ⟨f1,f3,f4,f5⟩ hin hne (fun s' I'=>⟨rfl,⟨.ref _,_,I',rfl,q _ hd⟩⟩) kvs.length 0 _ (by omega) (Nat.zero_le _) ⟨_,Heap.get?_push_size _ rfl,rfl,rfl⟩ I3
end
end L2
namespace Sm
open PySem L2 PySem.Spec PyProof.Rows
section
variable {X:Cx}
def nV:Fn:=fun ds h=>match ds with
 | [.tup xs]=>(fH xs).bind fun ps=>if xs.length≤1000000 then some (.dv (d9 [] ps),h) else none
 | ds=>nW ds h
theorem rj (hc:X.calm=true):dI X (.type "dict") nV:=by
 intro pins s σ H xs us Q I r hh
 obtain ⟨ρ,h,ds,z,h',S,l,ee,k⟩:=hh
 unfold nV at ee
 split at ee
 ·rename_i ys
  obtain ⟨ps,e3,e4⟩:=bnd ee
  by_cases c:ys.length≤1000000
  ·rw [if_pos c] at e4;cases e4
   obtain ⟨v,rfl,rd⟩:=rep1 l
   cases rd with
   | tup ht l2=>
    obtain ⟨kvs,p1,p2⟩:=iR l2 e3
    exact ib hc pins s σ H _ us Q I r ⟨_,_,kvs,rfl,ht.sq,p1,by rw [l2.length];exact c,fun q hq=>k _ _ (.dv S (RepK.merge .nil p2) hq)⟩
  ·rw [if_neg c] at e4;cases e4
 ·exact rl hc pins s σ H _ us Q I r ⟨ρ,h,_,z,h',S,l,ee,k⟩
end
end Sm
namespace L2
open PySem PySem.Spec PyProof.Rows
section
variable {X:Cx}
end
end L2
namespace Sm
open PySem L2 PySem.Spec PyProof.Rows
section
variable {X:Cx}
end
end Sm
namespace Hd
open PySem PySem.W PySem.Spec PyProof.Rows L2 Sm
def tL (_:Obj):Bool:=true
def kAt (h:Heap) (a:Addr):Option (Addr×Obj):=match h.get? a with
 | some o=>if tL o then some (a,o) else none
 | none=>none
def cb (h:Heap):Frag:=(List.range h.objs.size).filterMap (kAt h)
theorem gL (h:Heap) (a:Addr):∀l:List Addr,(l.filterMap (kAt h)).lookup a=if a∈l then (kAt h a).map (·.2) else none
 | []=>rfl
 | b::r=>by
  have ih:=gL h a r
  by_cases hb:a=b
  ·subst hb
   rw [if_pos List.mem_cons_self]
   rw [List.filterMap_cons]
   cases e:kAt h a with
   | none=>
    dsimp only
    rw [ih,e]
    split <;> rfl
   | some p=>
    have hp:p.1=a:=by
     unfold kAt at e
     split at e
     ·split at e
      ·cases e;rfl
      ·cases e
     ·cases e
    obtain ⟨p1,p2⟩:=p
    dsimp only at hp
    subst hp
    simp
  ·have hm:(a∈b::r)↔a∈r:=by simp [hb]
   rw [List.filterMap_cons]
   cases e:kAt h b with
   | none=>dsimp only;rw [ih];simp only [hm]
   | some p=>
    have hp:p.1=b:=by
     unfold kAt at e
     split at e
     ·split at e
      ·cases e;rfl
      ·cases e
     ·cases e
    obtain ⟨p1,p2⟩:=p
    dsimp only at hp
    subst hp
    have hab:(a==p1)=false:=by simpa using hb
    rw [List.lookup_cons,hab]
    dsimp only
    rw [ih];simp only [hm]
theorem ke {h:Heap} {a:Addr} {o:Obj} (e:h.get? a=some o) (f:tL o=true):(cb h).lookup a=some o:=by
 unfold cb
 rw [gL,if_pos]
 ·unfold kAt;rw [e];dsimp only;rw [if_pos f];rfl
 ·rw [List.mem_range]
  exact Heap.lt_size e
theorem tJ (h:Heap):(cb h).In h:=fun a o e=>by
 unfold cb at e
 rw [gL] at e
 split at e
 ·unfold kAt at e
  cases g:h.get? a with
  | none=>rw [g] at e;cases e
  | some o'=>
   rw [g] at e
   dsimp only at e
   split at e
   ·cases e;rfl
   ·cases e
 ·cases e
def posOf (s:Stmt):Pos:=match s with
 | .FunctionDef _ _ _ _ _ _ _ _ _ p=>p
 | _=>⟨0,0,0,0⟩
def bR (n:Str) (s:Stmt):DefRec:=⟨n,gn s,eu s,aD s,posOf s⟩
theorem tV {h:Heap} {cd:Value} {q:Str} (r:h.CodeRec cd q):codeIn (cb h) cd q=true:=by
 obtain ⟨c,o,vs,t,rfl,g,d,e⟩:=r
 have f:tL o=true:=rfl
 unfold codeIn
 dsimp only
 rw [ke g f]
 obtain ⟨oc,od,dt,sl⟩:=o
 dsimp only at d
 subst d
 dsimp only
 obtain ⟨l⟩:=vs
 match l,e with
 | x::.str n _::r,e=>cases e;simp
theorem ck {q:Program} {loose:List Str} {mean:ExcName→Option Value} {mg mb:Str→Option Value} {h:Heap} (T:Top q loose mean mg mb h) {n:Str} {st:Stmt} (e:(recsOf q).find? (fun e=>e.name==n)=some (bR n st)):
  ∃f fd,mg n=some (.ref f)∧Fun (cb h) n n st f fd:=by
 have hm:bR n st∈recsOf q:=List.mem_of_find?_eq_some e
 obtain ⟨a,o,pm,code,doc,m,g,d,c⟩:=T.fn _ hm
 have f:tL o=true:=rfl
 have lk:=ke g f
 have kp:keepIn (cb h) (.ref a)=true:=by
  unfold keepIn
  dsimp only
  rw [lk]
  obtain ⟨oc,od,dt,sl⟩:=o
  dsimp only at d
  subst d
  rfl
 obtain ⟨oc,od,dt,sl⟩:=o
 dsimp only at d
 subst d
 exact ⟨a,_,m,⟨oc,od,.none,doc,pm,_,code,_,sl,rfl,lk,tV c⟩,kp⟩
theorem _root_.L2.Fun.one {K:Frag} {x qual:Str} {st:Stmt} {f:Addr} {fd:FuncData} {p:Str} (F:Fun K x qual st f fd)
  (h:∀(kV doc pm:Value) (an:Option Addr) (cdv ct:Value) (u:Value),bindArgs (PySem.W.fnOf x qual (gn st) (eu st) (aD st) .none kV doc pm an cdv ct) ⟨[u],[]⟩=pure [(p,u)]) (s:Shared) (u:Value):BindsTo s fd ⟨[u],[]⟩ [(p,u)]:=by
 obtain ⟨oc,od,kV,doc,pm,an,cdv,ct,osl,rfl,lk,hcd⟩:=F.ex
 exact .of_eq (h kV doc pm an cdv ct u)
theorem wg {l:OpenLaw} {q:Program} {loose:List Str} {XP:(Str→Option Value)→Heap→Prop} {YP:World→Heap→Prop} {d:DefRec} {k:Nat} (hn:l.most=some 63) (hdf:d.params.defaults=[]) (hr:Room k callerA)
  (F:∀(w:World) (s₀:Shared) (mg mb:Str→Option Value) (h:Heap),Ground q loose [] XP w s₀ mg mb h→YP w h→∃(fa:Addr) (fd:FuncData),mg d.name=some (.ref fa)∧(∀(s:Shared) (u:Value),BindsTo s fd ⟨[u],[]⟩ [("_law_script",u)])∧
   ∀base:Heap,(cb h).In base→base.Ns mainGlobals mg→FnOk l.prog w (cb h) mg base CX0 k fa fd ["_law_script"] (spT (cb h))):
  WalkO q loose XP YP l.row.toRowW d [] (fun f vs=>PySem.call f vs):=by
 refine Att.nr hn hdf fun w s₀ s₁ mg mb fa o pm cd doc a vs ns G Y ho hd hcd hmg hobj hints hlen hg=>?_
 obtain ⟨fa',fd,e,hb,hF⟩:=F w s₀ mg mb _ G Y
 rw [e] at hmg
 cases hmg
 exact qO (tJ _) G.T.g G.T.b G.T.builtins G.T.nolimit hg hobj hints (Nat.le_trans hlen (by decide)) hr hF hb (fun H hO hS=>⟨a,ns,rfl,hS,hlen,fun _=>rfl⟩) fun _ _ _ z=>z
def freeOk (q:Program) (loose xs:List Str):Bool:=xs.all fun x=>!startupNames.contains x&&!(looseW q loose).contains x&&!((recsOf q).map (·.name)).contains x&&!((litsOf q).map (·.1)).contains x&&!((clssOf q (looseW q loose)).map (·.name)).contains x
theorem bS {q:Program} {loose xs:List Str} {mean:ExcName→Option Value} {mg mb:Str→Option Value} {h:Heap} (T:Top q (looseW q loose) mean mg mb h) (e:freeOk q loose xs=true) {x:Str} (hx:x∈xs):mg x=none:=by
 have:=List.all_eq_true.mp e x hx
 simp only [Bool.and_eq_true,Bool.not_eq_true',List.contains_eq_mem,decide_eq_false_iff_not] at this
 exact T.free x this.1.1.1.1 this.1.1.1.2 this.1.1.2 this.1.2 this.2
end Hd
namespace Sm
open PySem L2
def kDl (f:Expr→Option D):List Expr→Option (List D)
 | []=>some []
 | e::es=>(f e).bind fun d=>(kDl f es).bind fun ds=>some (d::ds)
def kD:Nat→Expr→Option D
 | 0,_=>none
 | n+1,e=>match e with
  | .Constant .none _ _=>some .non
  | .Constant (.bool b) _ _=>some (.bl b)
  | .Constant (.int i) _ _=>some (.int i)
  | .Constant (.str x) _ _=>if PyData.strOk x then some (.str x) else none
  | .UnaryOp .USub (.Constant (.int i) _ _) _=>some (.int (-i))
  | .Tuple es _ _=>(kDl (kD n) es).bind fun ds=>if ds.length≤1000 then some (.tup ds) else none
  | .List es _=>(kDl (kD n) es).bind fun ds=>if ds.length≤1000 then some (.lv ds) else none
  | .Dict [] [] _=>some (.dv [])
  | _=>none
def aK (ds:List D):AM:=fun _ h=>some (ds,h)
theorem xX (ds:List D):gv (aK ds) ds.length:=fun δ h xs h' e=>by cases e;rfl
section
variable {X:Cx}
theorem p9 {n:Nat} {e:Expr} {d:D} (h:kD n e=some d) (es:List Expr):starEach (e::es) X.env=(false,eval e X.env)::starEach es X.env:=by
 cases n with
 | zero=>cases h
 | succ n=>cases e <;> first | rfl | (exfalso;exact (nomatch h))
theorem kN {f:Expr→Option D} (hf:∀{e:Expr} {d:D},f e=some d→SE X e (eK d)) (hs:∀{e:Expr} {d:D},f e=some d→∀es:List Expr,starEach (e::es) X.env=(false,eval e X.env)::starEach es X.env):
  ∀{es:List Expr} {ds:List D},kDl f es=some ds→SA X es (aK ds)
 | [],ds,h=>by cases h;exact ah
 | e::es,ds,h=>by
  unfold kDl at h
  obtain ⟨d,e1,h⟩:=bnd h
  obtain ⟨r,e2,h⟩:=bnd h
  cases h
  exact (aa (hf e1) (kN hf hs e2) (hs e1 es):SA X _ (ae (eK d) (aK r)))
theorem cK:∀(n:Nat) {e:Expr} {d:D},kD n e=some d→SE X e (eK d)
 | 0,_,_,h=>by cases h
 | n+1,e,d,h=>by
  unfold kD at h
  split at h
  ·cases h;exact kM
  ·cases h;exact mx
  ·cases h;exact ai
  ·split at h
   ·rename_i hs;cases h;exact au hs
   ·cases h
  ·cases h;exact (fV dJ ai:SE X _ (eUn g7 (eK _)))
  ·obtain ⟨ds,e1,e2⟩:=bnd h
   split at e2
   ·rename_i hl;cases e2
    exact (aE (kN (cK n) p9 e1) (xX ds) (Nat.le_trans hl (by decide)):SE X _ (eFn ba (aK ds)))
   ·cases e2
  ·obtain ⟨ds,e1,e2⟩:=bnd h
   split at e2
   ·rename_i hl;cases e2
    exact (SFL.lv (bo (kN (cK n) p9 e1) (xX ds) (Nat.le_trans hl (by decide))):SE X _ (eLv (aK ds)))
   ·cases e2
  ·cases h;exact xg
  ·cases h
end
end Sm
namespace L2
open PySem PySem.Spec PyProof.Rows
def fx (ns:List Int):List Int:=ns.mergeSort fun a b=>decide (a≤b)
theorem dN (ns:List Int):(fx ns).Perm ns:=List.mergeSort_perm _ _
theorem kH (ns:List Int):(fx ns).Pairwise (·≤·):=by
 have:=List.pairwise_mergeSort (le:=fun a b:Int=>decide (a≤b)) (fun a b c h1 h2=>by simp at h1 h2 ⊢;omega) (fun a b=>by simp;omega) ns
 exact this.imp fun h=>by simpa using h
theorem qb {ss ns:List Int} (hp:ss.Perm ns) (h:ss.Pairwise (·≤·)):ss=fx ns:=
 List.Perm.eq_of_pairwise (fun a b _ _ h1 h2=>Int.le_antisymm h1 h2) h (kH ns) (hp.trans (dN ns).symm)
section
variable {X:Cx}
theorem oo:cW X (.builtin "sorted") (fun xs H Q=>∃a ss,xs=[.ref a]∧SqL X.K H a (ss.map V.int)∧ss.length < 64∧∀l,H l=none→Q (.ref l) (upd H l (.lst ((fx ss).map V.int)))):=by
 intro pins s σ H xs us Q I r h
 obtain ⟨a,ss,rfl,ha,h64,q⟩:=h
 obtain ⟨u,rfl,ru⟩:=vals1 r
 cases ru
 obtain ⟨its,rv,p,hz⟩:=I.list ha
 have hS:=intsAre_of rv
 have hlen:its.length=ss.length:=by have:=rv.length;rw [List.length_map] at this;exact this.symm
 refine sorted_ints p.isList hS (by omega) fun out ss' h1 h2 h3=>?_
 have:=qb h2 h3
 subst this
 have hl:s.heap.objs.size≤s.heap.objs.size+1:=Nat.le_succ _
 obtain ⟨e,ho⟩:=sortedAll_at s.heap its out
 have hz':((fx ss).map V.int).length≤sizeLine:=by rw [List.length_map,(dN ss).length_eq,sizeLine_eq];omega
 refine ⟨.ref (s.heap.objs.size+1),_,I.laid (t':=s.toks) (o:=.lst ((fx ss).map V.int)) (fun b o q=>sortedAll_old q) hl ⟨hz',out.toList,e,gx h1,?_⟩,rfl,q _ (I.hok.fresh hl)⟩
 rw [ho]
end
end L2
namespace Sm
open PySem L2 PySem.Spec PyProof.Rows
section
variable {X:Cx}
def qV:Fn:=fun ds h=>match ds with
 | [d]=>(dD d h).bind fun xs=>(i6 xs).bind fun ns=>if ns.length < 64 then some (.lv ((fx ns).map D.int),h) else none
 | _=>none
theorem repL_ints' {K:PySem.W.Frag} {ρ:Ad} {H:Hp}:∀(ns:List Int),RepL K ρ H (ns.map V.int) (ns.map D.int)
 | []=>.nil
 | n::r=>.cons (.int n) (repL_ints' r)
theorem rh:dI X (.builtin "sorted") qV:=by
 intro pins s σ H xs us Q I r hh
 obtain ⟨ρ,h,ds,z,h',S,l,ee,k⟩:=hh
 match ds,l,ee with
 | [],_,ee=>cases ee
 | _::_::_,_,ee=>cases ee
 | [d],l,ee=>
  obtain ⟨v,rfl,rd⟩:=rep1 l
  obtain ⟨ys,e1,e2⟩:=bnd ee
  obtain ⟨ns,e3,e4⟩:=bnd e2
  by_cases c:ns.length < 64
  ·rw [if_pos c] at e4
   cases e4
   obtain ⟨a,vs,rfl,ha,la⟩:=cZ S rd e1
   have:=mR e3
   subst this
   have:=iI la
   subst this
   exact oo pins s σ H _ us Q I r ⟨a,ns,rfl,SqL.of ha,c,fun l hl=>k _ _ (.lv S (repL_ints' _) hl)⟩
  ·rw [if_neg c] at e4;cases e4
def nY (m:PrM):EM:=fun δ h=>(m δ h).bind fun p=>if p.1.length≤15 then some (.ob p.2.length,p.2++[.dct (d9 [] p.1)]) else none
theorem qg {pos:Pos} {keys:List (Option Expr)} {vals:List Expr} {m:PrM} (h:SP X pos keys vals m) (hall:keys.all (·.isSome)=true) (hl:keys.length=vals.length) (h0:keys≠[]) (hp:∀trs,PPs X pos keys vals trs→PE X (.Dict keys vals pos) (ua trs)):SE X (.Dict keys vals pos) (nY m):=by
 obtain ⟨trs,h1,h2⟩:=h
 refine (hp trs h1).imp fun σ H Q ⟨ρ,δ,h,d,h',R,S,ee,k⟩ p hpn=>?_
 obtain ⟨⟨kvs,ha⟩,e1,e2⟩:=bnd ee
 dsimp only at e2
 by_cases z:kvs.length≤15
 ·rw [if_pos z] at e2
  cases e2
  have Tl:Ch ρ H (ρ.keep p) (upd H p (.dK [])):=Ch.keep hpn
  have nl:¬ρ.has p:=S.fresh hpn
  refine h2 σ _ _ ⟨ρ.keep p,δ,h,kvs,_,R.mono Tl,S.keep hpn,e1,fun us ρ2 H2 T2 S2 r2=>?_⟩
  have hp2:H2 p=some (.dK []):=(T2.res p List.mem_cons_self).trans aN
  refine ⟨hp2,us,rfl,by rw [r2.len];exact z,?_⟩
  obtain ⟨ob2,rs2⟩:=ρ2
  have ers:rs2=p::ρ.rs:=T2.rs
  subst ers
  have hml:p∈(⟨ob2,p::ρ.rs⟩:Ad).rs:=List.mem_cons_self
  have npo:p∉ob2:=(S2.rsv p hml).2
  have hne:∀b∈ρ.rs,b≠p:=fun b hb z=>nl (.inr (z ▸ hb))
  generalize hH3:upd H2 p (.dK (aA [] us))=H3
  have at3:∀b,b≠p→H3 b=H2 b:=fun b hb=>by rw [←hH3,av hb]
  have C23:Ch ⟨ob2,p::ρ.rs⟩ H2 ⟨ob2++[p],ρ.rs⟩ H3:=by
   refine ⟨fun n a e=>?_,fun b o nb eb=>⟨fun z=>?_,?_⟩⟩
   ·show (ob2++[p])[n]?=_
    rw [List.getElem?_append_left (List.getElem?_eq_some_iff.mp e).1];exact e
   ·rcases z with z | z
    ·rcases List.mem_append.mp z with z | z
     ·exact nb (.inl z)
     ·exact nb (.inr (by rw [List.mem_singleton.mp z];exact List.mem_cons_self))
    ·exact nb (.inr (List.mem_cons_of_mem _ z))
   ·rw [at3 b (fun z=>nb (.inr (by rw [z];exact List.mem_cons_self)))];exact eb
  refine k _ _ ⟨⟨ob2++[p],ρ.rs⟩,⟨(Tl.trans T2.toCh).trans C23,rfl,fun b hb=>?_⟩,?_,.ob (by show (ob2++[p])[ha.length]?=_;rw [←S2.len];simp)⟩
  ·rw [at3 b (hne b hb),T2.res b (List.mem_cons_of_mem _ hb)]
   exact av (hne b hb)
  ·refine ⟨by show (ob2++[p]).length=_;simp;exact S2.len,?_,fun n a x e1 e2=>?_,fun b hb=>?_⟩
   ·show (ob2++[p]).Nodup
    rw [List.nodup_append]
    exact ⟨S2.nd,by simp,fun a ha b hb z=>npo (by rw [←List.mem_singleton.mp hb,←z];exact ha)⟩
   ·have e1:(ob2++[p])[n]?=some a:=e1
    have hlen:ob2.length=ha.length:=S2.len
    by_cases hn:n < ob2.length
    ·rw [List.getElem?_append_left hn] at e1
     rw [List.getElem?_append_left (by omega)] at e2
     exact (S2.at_ n a x e1 e2).mono C23 (at3 a fun z=>npo (z ▸ List.mem_of_getElem? e1))
    ·have l1:=(List.getElem?_eq_some_iff.mp e1).1
     simp at l1
     have hn':n=ob2.length:=by omega
     subst hn'
     rw [List.getElem?_append_right (Nat.le_refl _)] at e1
     rw [List.getElem?_append_right (by omega),hlen] at e2
     simp at e1 e2
     subst e1;subst e2
     exact ⟨aA [] us,by rw [←hH3];exact aN,(RepK.merge .nil r2).mono C23⟩
   ·obtain ⟨⟨o,eo⟩,nb⟩:=S2.rsv b (List.mem_cons_of_mem _ hb)
    refine ⟨⟨o,by rw [at3 b (hne b hb)];exact eo⟩,fun z=>?_⟩
    rcases List.mem_append.mp z with z | z
    ·exact nb z
    ·exact hne b hb (List.mem_singleton.mp z)
 ·rw [if_neg z] at e2;cases e2
end
end Sm
namespace Sm
open PySem L2 PySem.Spec PyProof.Rows
section
variable {X:Cx}
def tP (d e:D) (h:MH):Option (D×MH):=match e with
 | .int n=>(dD d h).bind fun xs=>if 0≤n∧n≤1000∧xs.length≤1000 then some (.lv (List.replicate n.toNat xs).flatten,h) else none
 | _=>none
theorem RepL.rep {K:PySem.W.Frag} {ρ:Ad} {H:Hp} {vs:List V} {ds:List D} (h:RepL K ρ H vs ds):∀k:Nat,RepL K ρ H (List.replicate k vs).flatten (List.replicate k ds).flatten
 | 0=>.nil
 | k+1=>by
  rw [List.replicate_succ,List.replicate_succ,List.flatten_cons,List.flatten_cons]
  exact h.append (RepL.rep h k)
theorem qF:OpS X (binaryOp .Mult) tP:=by
 intro pins s σ H x y v u Q I rx ry hh
 obtain ⟨ρ,h,d,e,z,h',S,rd,re,ee,k⟩:=hh
 cases e <;> first | (cases ee;done) | skip
 rename_i n
 obtain ⟨xs,e1,e2⟩:=bnd (show (dD d h).bind _=_ from ee)
 by_cases c:0≤n∧n≤1000∧xs.length≤1000
 ·rw [if_pos c] at e2
  cases e2
  obtain ⟨a,vs,rfl,ha,la⟩:=cZ S rd e1
  cases re
  have hb:xs.length*n.toNat≤1000*1000:=Nat.mul_le_mul c.2.2 (by omega)
  exact vG pins s σ H _ _ v u Q I rx ry ⟨a,n,vs,rfl,rfl,ha,by omega,by omega,by rw [la.length,show sizeLine=16777216 from rfl];omega,fun l hl=>k _ _ (.lv S (la.rep _) hl)⟩
 ·rw [if_neg c] at e2;cases e2
end
end Sm
namespace L2
open PySem PySem.Spec PyProof.Rows
theorem jQ:∀(us:List Value) (o:Nat),(∀(j:Nat) v,us[j]?=some v→∃t,v=.int ((o:Int)+j) t)→Vals ((List.range' o us.length).map fun (k:Nat)=>V.int k) us
 | [],_,_=>.nil
 | u::r,o,h=>by
  rw [List.length_cons,List.range'_succ,List.map_cons]
  obtain ⟨t,e⟩:=h 0 u rfl
  refine .cons ⟨t,by rw [e];simp⟩ (jQ r (o+1) fun j v hv=>?_)
  obtain ⟨t,e⟩:=h (j+1) v (by simpa using hv)
  exact ⟨t,by rw [e];congr 1;omega⟩
section
variable {X:Cx}
theorem ph {a:Expr} {ta:TA} {p p2 pos pos2:Pos} (hc:X.calm=true) (hg1:Gl X "list") (hm1:X.mg "list"=none) (hg2:Gl X "range") (hm2:X.mg "range"=none) (hv:bootBuiltins "list"=some (.type "list")) (ha:PA X [a] ta) (hs:starEach [a] X.env=[(false,eval a X.env)]):
  PE X (.Call (.Name "list" p) [.Call (.Name "range" p2) [a] [] pos2] [] pos) (fun σ H Q=>ta σ H fun vs H1=>∃j:Int,vs=[.int j]∧0≤j∧j≤1000∧∀l,H1 l=none→Q (.ref l) (upd H1 l (.lst ((List.range j.toNat).map fun (k:Nat)=>V.int k)))):=by
 intro pins s σ H Q I h
 refine wpAny_Call_Name_kw (c8 I hg1 hm1 hv ?_)
 refine PyProof.Rows.callWith_type1 ?_ rfl rfl
 show wpAny _ _ (spliced ((false,eval (.Call (.Name "range" p2) [a] [] pos2) X.env)::backTo pos (starEach [] X.env))) _ _ s
 refine Calls.spliced_cons ?_
 refine wpAny_Call_Name_kw (c8 I hg2 hm2 boot_range (PyProof.Rows.callWith_type1 (thn (ha pos2 pins s σ H _ I h) fun us s1 ⟨vs,H1,I1,r1,q1⟩=>?_) hs rfl))
 obtain ⟨j,e,j0,j1,q⟩:=q1
 subst e
 cases r1 with
 | cons r rr=>
  cases rr
  obtain ⟨t,rfl⟩:=r
  refine call_range_1 ?_
  have I2:Inv X pins σ H1 {s1 with heap:=s1.heap.push {cls:=.type "range",data:=.fields #[.int 0 s1.toks,.int j t,.int 1 (s1.toks+1)]},toks:=s1.toks+1+1}:=I1.kept fun b o e=>Heap.get?_push_of_some _ e
  refine Calls.spliced_nil ?_
  refine call_list_range (n:=j.toNat) (I1.ok.hd hc) (IsRange.new ..) (small_one (by omega) (by omega) (by omega) (by omega)) (by rw [rangeSize_one];split <;> omega) (by omega) fun h' tk acc' c' hk hS' hacc=>?_
  have hlen:acc'.toList.length=j.toNat:=by rw [Array.length_toList];exact hacc.1
  have hv:Vals ((List.range j.toNat).map fun (k:Nat)=>V.int k) acc'.toList:=by
   have:=jQ acc'.toList 0 fun i v hv=>by
    obtain ⟨t,e⟩:=hacc.2 i v (by simpa using hv)
    exact ⟨t,by rw [e];congr 1;simp⟩
   rw [hlen] at this
   rw [List.range_eq_range']
   exact this
  refine ⟨.ref _,_,I2.laid (t':=tk) (o:=.lst ((List.range j.toNat).map fun (k:Nat)=>V.int k)) hk (Nat.le_refl _) ⟨by rw [List.length_map,List.length_range,sizeLine_eq];omega,acc'.toList,c',hv,?_⟩,rfl,q _ (I2.hok.fresh (Nat.le_refl _))⟩
  rw [hS']
end
end L2
namespace Sm
open PySem L2 PySem.Spec PyProof.Rows
section
variable {X:Cx} {a b:Expr} {pos:Pos} {ma mb:EM}
def wB (m:AM):AM:=fun δ h=>(m δ h).bind fun p=>match p.1 with
 | [.int j]=>if 0≤j∧j≤1000 then some ((List.range j.toNat).map fun (k:Nat)=>D.int k,p.2) else none
 | _=>none
theorem iH {K:PySem.W.Frag} {ρ:Ad} {H:Hp}:∀l:List Nat,RepL K ρ H (l.map fun (k:Nat)=>V.int k) (l.map fun (k:Nat)=>D.int k)
 | []=>.nil
 | n::r=>.cons (.int n) (iH r)
theorem o8 {m:AM} {p p2 pos2:Pos} (hc:X.calm=true) (hg1:Gl X "list") (hm1:X.mg "list"=none) (hg2:Gl X "range") (hm2:X.mg "range"=none) (hv:bootBuiltins "list"=some (.type "list")) (ha:SA X [a] m) (hs:starEach [a] X.env=[(false,eval a X.env)]:=by kernel_rfl):
  SFL X (.Call (.Name "list" p) [.Call (.Name "range" p2) [a] [] pos2] [] pos) (wB m):=(ph hc hg1 hm1 hg2 hm2 hv ha hs).imp fun σ H Q ⟨ρ,δ,h,ds,h',R,S,e,k⟩=>by
 obtain ⟨⟨xs,h1⟩,e1,e2⟩:=bnd e
 dsimp only at e2
 split at e2
 ·rename_i j
  split at e2
  ·rename_i c
   cases e2
   refine ⟨ρ,δ,h,_,_,R,S,e1,fun vs ρ1 H1 T1 S1 r1=>?_⟩
   obtain ⟨v,rfl,rd⟩:=rep1 r1
   cases rd
   exact ⟨j,rfl,c.1,c.2,fun l hl=>k ρ1 H1 l _ T1 S1 hl (iH _)⟩
  ·cases e2
 ·cases e2
def wC (ma mb:EM):AM:=fun δ h=>(ma δ h).bind fun p=>(mb δ p.2).bind fun q=>(dD p.1 q.2).bind fun xs=>(dD q.1 q.2).bind fun ys=>if xs.length+ys.length≤sizeLine then some (xs++ys,q.2) else none
theorem uI (ha:SE X a ma) (hb:SE X b mb):SFL X (.BinOp a .Add b pos) (wC ma mb):=(uf qJ ha hb).imp fun σ H Q ⟨ρ,δ,h,ds,h',R,S,e,k⟩=>by
 obtain ⟨⟨x,h1⟩,e1,e2⟩:=bnd e
 obtain ⟨⟨y,h2⟩,e3,e4⟩:=bnd e2
 obtain ⟨xs,e5,e6⟩:=bnd e4
 obtain ⟨ys,e7,e8⟩:=bnd e6
 dsimp only at e3 e5 e7
 split at e8
 ·rename_i c
  cases e8
  refine ⟨ρ,δ,h,x,h1,R,S,e1,fun v H1 ⟨ρ1,T1,S1,r1⟩=>⟨ρ1,δ,h1,y,h2,R.mono T1.toCh,S1,e3,fun u H2 ⟨ρ2,T2,S2,r2⟩=>?_⟩⟩
  obtain ⟨a,vs,rfl,hA,lA⟩:=cZ S2 (r1.mono T2.toCh) e5
  obtain ⟨b,us,rfl,hB,lB⟩:=cZ S2 r2 e7
  exact ⟨a,b,vs,us,rfl,rfl,hA,hB,by rw [lA.length,lB.length];exact c,fun p hp=>k ρ2 H2 p (vs++us) (T1.trans T2) S2 hp (lA.append lB)⟩
 ·cases e8
end
end Sm
namespace Sm
open PySem L2
theorem iN:∀cs:List Int,pyL (cs.map D.int)=some (cs.map PyData.int)
 | []=>rfl
 | c::r=>by simp only [List.map_cons,pyL,pyD,iN r,Option.bind_some,Option.map_some]
theorem fN:∀cs:List Int,PyData.depthAll (cs.map PyData.int)=0
 | []=>rfl
 | c::r=>by simp only [List.map_cons,PyData.depthAll,fN r,PyData.depth];rfl
theorem pL {h:MH} {c:Nat} {cs:List Int} (hc:h[c]?=some (.lst (cs.map D.int))):fv (.ob c) (.lv []) h=some (.bl (!cs.isEmpty),h):=by
 simp only [fv,eqA,cn,hc,eqD,rdD,iN,pyD,pyL,Option.map_some,Option.bind_some,PyData.depth,fN]
 cases cs <;> rfl
theorem fc {h:MH} {n:Nat} {xs:List D} {i:Int} {d:D} (hn:h[n]?=some (.lst xs)) (e:atI xs i=some d):fIx (.ob n) (.int i) h=some (d,h):=by
 simp only [fIx,cn,hn,bY,Option.bind_some,e,Option.map_some]
theorem oR {h:MH} {n:Nat} {xs:List D} (hn:h[n]?=some (.lst xs)):cU [.ob n] h=some (.int xs.length,h):=by
 simp only [cU,cn,hn,bY,Option.map_some]
theorem lI {h:MH} {n:Nat} {xs:List D} {i:Int} {p:Nat} {d:D} (hn:h[n]?=some (.lst xs)) (e:ixN xs.length i=some p):jI (.ob n) (.int i) d h=some (h.set n (.lst (xs.set p d))):=by
 simp only [jI,hn,e,Option.map_some]
theorem rJ (cs:List Int) (i:Int) (h0:0≤i) (h1:i < cs.length):∃z,atI (cs.map D.int) i=some (.int z):=by
 have hlt:i.toNat < cs.length:=by omega
 refine ⟨cs[i.toNat]'hlt,?_⟩
 have e:((i.toNat:Nat):Int)=i:=Int.toNat_of_nonneg h0
 have q:atI (cs.map D.int) ((i.toNat:Nat):Int)=some (D.int (cs[i.toNat]'hlt)):=lX (by rw [List.getElem?_map,List.getElem?_eq_getElem hlt];rfl)
 rw [e] at q
 exact q
theorem rG {α:Type} {xs:List α} {i:Int} (h0:0≤i) (h1:i < xs.length):∃v,atI xs i=some v∧v∈xs:=by
 have hlt:i.toNat < xs.length:=by omega
 have e:((i.toNat:Nat):Int)=i:=Int.toNat_of_nonneg h0
 have q:atI xs ((i.toNat:Nat):Int)=some (xs[i.toNat]'hlt):=lX (List.getElem?_eq_getElem hlt)
 rw [e] at q
 exact ⟨_,q,List.getElem_mem hlt⟩
end Sm
namespace Sm
open PySem
def Rn {α:Type} (o:Option α) (Q:α→Prop):Prop:=∃a,o=some a∧Q a
theorem rv {α:Type} {o:Option α} {a:α} {Q:α→Prop} (e:o=some a) (q:Q a):Rn o Q:=⟨a,e,q⟩
theorem Rn.imp {α:Type} {o:Option α} {Q Q':α→Prop} (r:Rn o Q) (f:∀a,Q a→Q' a):Rn o Q':=let ⟨a,e,q⟩:=r;⟨a,e,f a q⟩
theorem aP {α β:Type} {o:Option α} {f:α→Option β} {Q:β→Prop} (r:Rn o fun a=>Rn (f a) Q):Rn (o.bind f) Q:=by
 obtain ⟨a,e,b,e2,q⟩:=r
 exact ⟨b,by rw [e];exact e2,q⟩
theorem sk {α β:Type} {o:Option α} {f:α→β} {Q:β→Prop} (r:Rn o fun a=>Q (f a)):Rn (o.map f) Q:=by
 obtain ⟨a,e,q⟩:=r
 exact ⟨f a,by rw [e];rfl,q⟩
section
variable {δ:DS} {h:MH}
theorem xk {i:Nat} {d:D} {Q:D×MH→Prop} (e:δ[i]?=some (some d)) (q:Q (d,h)):Rn (af i δ h) Q:=⟨(d,h),by unfold af;rw [e];rfl,q⟩
theorem r_k {d:D} {Q:D×MH→Prop} (q:Q (d,h)):Rn (eK d δ h) Q:=⟨_,rfl,q⟩
theorem uW {f:D→D→MH→Option (D×MH)} {a b:EM} {Q:D×MH→Prop} (r:Rn (a δ h) fun p=>Rn (b δ p.2) fun q=>Rn (f p.1 q.1 q.2) Q):Rn (eOp f a b δ h) Q:=aP (r.imp fun _ r=>aP r)
theorem yk {f:D→MH→Option (D×MH)} {a:EM} {Q:D×MH→Prop} (r:Rn (a δ h) fun p=>Rn (f p.1 p.2) Q):Rn (eUn f a δ h) Q:=aP r
theorem xt {Q:List D×MH→Prop} (q:Q ([],h)):Rn (ao δ h) Q:=⟨_,rfl,q⟩
theorem u0 {a:EM} {m:AM} {Q:List D×MH→Prop} (r:Rn (a δ h) fun p=>Rn (m δ p.2) fun q=>Q (p.1::q.1,q.2)):Rn (ae a m δ h) Q:=aP (r.imp fun _ r=>aP (r.imp fun _ q=>⟨_,rfl,q⟩))
theorem yt {f:Fn} {m:AM} {Q:D×MH→Prop} (r:Rn (m δ h) fun p=>Rn (f p.1 p.2) Q):Rn (eFn f m δ h) Q:=aP r
theorem yp {t:TM} {a b:EM} {Q:D×MH→Prop} (r:Rn (t δ h) fun p=>(p.1=true→Rn (a δ p.2) Q)∧(p.1=false→Rn (b δ p.2) Q)):Rn (eIf t a b δ h) Q:=aP (r.imp fun p ⟨q1,q2⟩=>by
 obtain ⟨c,h⟩:=p
 cases c with
 | true=>exact q1 rfl
 | false=>exact q2 rfl)
theorem u4 {a:EM} {Q:Bool×MH→Prop} (r:Rn (a δ h) fun p=>∃c,p.1=.bl c∧Q (c,p.2)):Rn (aR a δ h) Q:=aP (r.imp fun p ⟨c,e,q⟩=>⟨(c,p.2),by rw [e],q⟩)
theorem uR {a:EM} {Q:Bool×MH→Prop} (r:Rn (a δ h) fun p=>∃c,p5 p.1 p.2=some c∧Q (c,p.2)):Rn (mh a δ h) Q:=aP (r.imp fun p ⟨c,e,q⟩=>⟨(c,p.2),by rw [e];rfl,q⟩)
theorem uS {t:TM} {Q:Bool×MH→Prop} (r:Rn (t δ h) fun p=>Q (!p.1,p.2)):Rn (Sm.o5 t δ h) Q:=sk r
theorem uT {a b:TM} {Q:Bool×MH→Prop} (r:Rn (a δ h) fun p=>(p.1=true→Rn (b δ p.2) Q)∧(p.1=false→Q (false,p.2))):Rn (Sm.gz a b δ h) Q:=aP (r.imp fun p ⟨q1,q2⟩=>by
 obtain ⟨c,h⟩:=p
 cases c with
 | true=>exact q1 rfl
 | false=>exact ⟨_,rfl,q2 rfl⟩)
theorem xl {a b:TM} {Q:Bool×MH→Prop} (r:Rn (a δ h) fun p=>(p.1=true→Q (true,p.2))∧(p.1=false→Rn (b δ p.2) Q)):Rn (Sm.tOr a b δ h) Q:=aP (r.imp fun p ⟨q1,q2⟩=>by
 obtain ⟨c,h⟩:=p
 cases c with
 | true=>exact ⟨_,rfl,q1 rfl⟩
 | false=>exact q2 rfl)
theorem xx {a b:EM} {Q:D×MH→Prop} (r:Rn (a δ h) fun p=>∃c,p.1=.bl c∧(c=true→Rn (b δ p.2) Q)∧(c=false→Q (.bl false,p.2))):Rn (tT a b δ h) Q:=aP (r.imp fun p ⟨c,e,q1,q2⟩=>by
 rw [e]
 cases c with
 | true=>exact q1 rfl
 | false=>exact ⟨_,rfl,q2 rfl⟩)
theorem ym {a b:EM} {Q:D×MH→Prop} (r:Rn (a δ h) fun p=>∃c,p.1=.bl c∧(c=true→Q (.bl true,p.2))∧(c=false→Rn (b δ p.2) Q)):Rn (eOr a b δ h) Q:=aP (r.imp fun p ⟨c,e,q1,q2⟩=>by
 rw [e]
 cases c with
 | true=>exact ⟨_,rfl,q1 rfl⟩
 | false=>exact q2 rfl)
theorem xr {a:EM} {Q:D×MH→Prop} (r:Rn (a δ h) fun p=>∃c,p.1=.bl c∧Q (.bl (!c),p.2)):Rn (yZ a δ h) Q:=aP (r.imp fun p ⟨c,e,q⟩=>⟨_,by rw [e],q⟩)
theorem yo {m:AM} {Q:D×MH→Prop} (r:Rn (m δ h) fun p=>Q (.lv p.1,p.2)):Rn (eLv m δ h) Q:=sk r
theorem yn {m:AM} {Q:D×MH→Prop} (r:Rn (m δ h) fun p=>Q (.ob p.2.length,p.2++[.lst p.1])):Rn (eOb m δ h) Q:=sk r
theorem yu {Q:D×MH→Prop} (q:Q (.dv [],h)):Rn (eDv δ h) Q:=⟨_,rfl,q⟩
theorem yw {Q:D×MH→Prop} (q:Q (.ob h.length,h++[.dct []])):Rn (eDo δ h) Q:=⟨_,rfl,q⟩
theorem uX {m:AM} {Q:List D×MH→Prop} (r:Rn (m δ h) fun p=>∃d xs ws,p.1=[d]∧bY d p.2=some (xs,ws)∧Q (xs,p.2)):Rn (rK m δ h) Q:=aP (r.imp fun p ⟨d,xs,ws,e,e2,q⟩=>⟨(xs,p.2),by rw [e];dsimp only;rw [e2];rfl,q⟩)
theorem xo {Q:Option Int×MH→Prop} (q:Q (none,h)):Rn (pNo δ h) Q:=⟨_,rfl,q⟩
theorem xp {a:EM} {Q:Option Int×MH→Prop} (r:Rn (a δ h) fun p=>∃i,p.1=.int i∧Q (some i,p.2)):Rn (pAt a δ h) Q:=aP (r.imp fun p ⟨c,e,q⟩=>⟨_,by rw [e],q⟩)
theorem yl {a:EM} {l u:PM} {Q:D×MH→Prop} (r:Rn (a δ h) fun p=>Rn (l δ p.2) fun q=>Rn (u δ q.2) fun r=>Rn (fSl p.1 q.1 r.1 r.2) Q):Rn (eSl a l u δ h) Q:=aP (r.imp fun _ r=>aP (r.imp fun _ r=>aP r))
abbrev SQ:=Fl×DS×MH→Prop
theorem uU {Q:SQ} (q:Q (.nx,δ,h)):Rn (cD δ h) Q:=⟨_,rfl,q⟩
theorem uV {Q:SQ} (q:Q (.bk,δ,h)):Rn (yj δ h) Q:=⟨_,rfl,q⟩
theorem sx {Q:SQ} (q:Q (.ct,δ,h)):Rn (xh δ h) Q:=⟨_,rfl,q⟩
def jT (b:SM) (Q:SQ):SQ:=fun r=>match r.1 with
 | .nx=>Rn (b r.2.1 r.2.2) Q
 | _=>Q r
theorem mC {a b:SM} {Q:SQ} (r:Rn (a δ h) (jT b Q)):Rn (aB a b δ h) Q:=aP (r.imp fun p q=>by
 obtain ⟨f,δ',h'⟩:=p
 cases f with
 | nx=>exact q
 | bk=>exact ⟨_,rfl,q⟩
 | ct=>exact ⟨_,rfl,q⟩
 | rt d=>exact ⟨_,rfl,q⟩)
theorem xm {i:Nat} {e:EM} {Q:SQ} (r:Rn (e δ h) fun p=>Q (.nx,δ.set i (some p.1),p.2)):Rn (aU i e δ h) Q:=aP (r.imp fun _ q=>⟨_,rfl,q⟩)
theorem xw {e:EM} {g:GM} {Q:SQ} (r:Rn (e δ h) fun p=>Rn (g p.1 δ p.2) fun q=>Q (.nx,q.1,q.2)):Rn (g8 e g δ h) Q:=aP (r.imp fun _ r=>aP (r.imp fun _ q=>⟨_,rfl,q⟩))
theorem uZ {e:EM} {Q:SQ} (r:Rn (e δ h) fun p=>Q (.nx,δ,p.2)):Rn (iE e δ h) Q:=aP (r.imp fun _ q=>⟨_,rfl,q⟩)
theorem xn {e:EM} {Q:SQ} (r:Rn (e δ h) fun p=>Q (.rt p.1,δ,p.2)):Rn (bH e δ h) Q:=aP (r.imp fun _ q=>⟨_,rfl,q⟩)
theorem ud {t:TM} {a b:SM} {Q:SQ} (r:Rn (t δ h) fun p=>(p.1=true→Rn (a δ p.2) Q)∧(p.1=false→Rn (b δ p.2) Q)):Rn (sIf t a b δ h) Q:=aP (r.imp fun p ⟨q1,q2⟩=>by
 obtain ⟨c,h⟩:=p
 cases c with
 | true=>exact q1 rfl
 | false=>exact q2 rfl)
theorem xq {i j:Nat} {m:AM} {Q:SQ} (r:Rn (m δ h) fun p=>∃a b,p.1=[a,b]∧Q (.nx,(δ.set i (some a)).set j (some b),p.2)):Rn (pb i j m δ h) Q:=aP (r.imp fun p ⟨a,b,e,q⟩=>⟨_,by rw [e],q⟩)
theorem yr {i:Nat} {d:D} {Q:DS×MH→Prop} (q:Q (δ.set i (some d),h)):Rn (gN i d δ h) Q:=⟨_,rfl,q⟩
theorem uY {o i:EM} {v:D} {Q:DS×MH→Prop} (r:Rn (o δ h) fun p=>Rn (i δ p.2) fun q=>Rn (jI p.1 q.1 v q.2) fun h'=>Q (δ,h')):Rn (Sm.jH o i v δ h) Q:=aP (r.imp fun _ r=>aP (r.imp fun _ r=>sk r))
theorem yq {n:Nat} {u:GMs} {xs:List D} {Q:DS×MH→Prop} (hn:xs.length=n) (r:Rn (u xs δ h) Q):Rn (gT n u (.tup xs) δ h) Q:=by
 unfold gT;dsimp only;rw [if_pos hn];exact r
theorem qq {g:GM} {u:GMs} {d:D} {xs:List D} {Q:DS×MH→Prop} (r:Rn (g d δ h) fun p=>Rn (u xs p.1 p.2) Q):Rn (cw g u (d::xs) δ h) Q:=aP r
theorem sA {Q:DS×MH→Prop} (q:Q (δ,h)):Rn (gY [] δ h) Q:=⟨_,rfl,q⟩
end
def sm (Q:D×MH→Prop):SQ:=fun r=>match r.1 with
 | .rt d=>Q (d,r.2.2)
 | .nx=>Q (.non,r.2.2)
 | _=>False
theorem yJ {Q:D×MH→Prop} {d:D} {δ:DS} {h:MH} (q:Q (d,h)):sm Q (.rt d,δ,h):=q
theorem yK {Q:D×MH→Prop} {δ:DS} {h:MH} (q:Q (.non,h)):sm Q (.nx,δ,h):=q
theorem x9 {b:SM} {Q:SQ} {δ:DS} {h:MH} (r:Rn (b δ h) Q):jT b Q (.nx,δ,h):=r
theorem x8 {b:SM} {Q:SQ} {d:D} {δ:DS} {h:MH} (q:Q (.rt d,δ,h)):jT b Q (.rt d,δ,h):=q
theorem yb {b:SM} {Q:SQ} {δ:DS} {h:MH} (q:Q (.bk,δ,h)):jT b Q (.bk,δ,h):=q
theorem ya {b:SM} {Q:SQ} {δ:DS} {h:MH} (q:Q (.ct,δ,h)):jT b Q (.ct,δ,h):=q
def mM (I:DS→MH→Prop) (Q:SQ):SQ:=fun z=>match z.1 with
 | .nx=>I z.2.1 z.2.2
 | .ct=>I z.2.1 z.2.2
 | .bk=>Q (.nx,z.2.1,z.2.2)
 | .rt d=>Q (.rt d,z.2.1,z.2.2)
theorem yP {I:DS→MH→Prop} {Q:SQ} {δ:DS} {h:MH} (q:I δ h):mM I Q (.nx,δ,h):=q
theorem yQ {I:DS→MH→Prop} {Q:SQ} {δ:DS} {h:MH} (q:I δ h):mM I Q (.ct,δ,h):=q
theorem yR {I:DS→MH→Prop} {Q:SQ} {δ:DS} {h:MH} (q:Q (.nx,δ,h)):mM I Q (.bk,δ,h):=q
theorem yO {I:DS→MH→Prop} {Q:SQ} {d:D} {δ:DS} {h:MH} (q:Q (.rt d,δ,h)):mM I Q (.rt d,δ,h):=q
theorem cO {len:Nat} {b:SM} {ds:List D} {h:MH} {Q:D×MH→Prop} (r:Rn (b (entry len ds) h) (sm Q)):Rn (mkF len b ds h) Q:=aP (r.imp fun p q=>by
 obtain ⟨f,δ',h'⟩:=p
 cases f with
 | nx=>exact ⟨_,rfl,q⟩
 | rt d=>exact ⟨_,rfl,q⟩
 | bk=>exact q.elim
 | ct=>exact q.elim)
theorem xv {i:IM} {g:GM} {b:SM} {δ:DS} {h:MH} {Q:SQ} (r:Rn (i δ h) fun p=>Rn (gi p.2.1 g b p.1 δ p.2.2) Q):Rn (jv i g b δ h) Q:=aP r
theorem eV {ws:W} {g:GM} {b:SM} {Q:SQ}:∀{xs:List D} {δ:DS} {h:MH} (I:Nat→DS→MH→Prop),I 0 δ h→(∀i δ h,i≤xs.length→I i δ h→chk ws h=true)→
  (∀i x δ h,xs[i]?=some x→I i δ h→Rn (g x δ h) fun q=>Rn (b q.1 q.2) (mM (I (i+1)) Q))→(∀δ h,I xs.length δ h→Q (.nx,δ,h))→Rn (gi ws g b xs δ h) Q
 | [],δ,h,I,h0,hc,_,hq=>by
  unfold gi
  rw [if_pos (hc 0 δ h (Nat.le_refl _) h0)]
  exact ⟨_,rfl,hq δ h h0⟩
 | x::xs,δ,h,I,h0,hc,ht,hq=>by
  unfold gi
  rw [if_pos (hc 0 δ h (Nat.zero_le _) h0)]
  obtain ⟨q,e1,z,e2,hz⟩:=ht 0 x δ h rfl h0
  rw [e1]
  show Rn ((b q.1 q.2).bind _) Q
  rw [e2]
  obtain ⟨f,δ',h'⟩:=z
  have next:I 1 δ' h'→Rn (gi ws g b xs δ' h') Q:=fun hi=>eV (fun i=>I (i+1)) hi (fun i δ h hl=>hc (i+1) δ h (Nat.succ_le_succ hl)) (fun i x δ h hx=>ht (i+1) x δ h (by simpa using hx)) hq
  cases f with
  | nx=>exact next hz
  | ct=>exact next hz
  | bk=>exact ⟨_,rfl,hz⟩
  | rt d=>exact ⟨_,rfl,hz⟩
theorem eU {e:EM} {δ:DS} {h:MH} {Q:List D×W×MH→Prop} (r:Rn (e δ h) fun p=>∃xs ws,bY p.1 p.2=some (xs,ws)∧Q (xs,ws,p.2)):Rn (jG e δ h) Q:=aP (r.imp fun p ⟨xs,ws,e,q⟩=>⟨(xs,ws,p.2),by rw [e];rfl,q⟩)
theorem dZ {m:AM} {δ:DS} {h:MH} {Q:List D×W×MH→Prop} (r:Rn (m δ h) fun p=>∃j:Int,p.1=[.int j]∧-(2^62)≤j∧j < 2^62∧Q ((List.range j.toNat).map fun (k:Nat)=>D.int (k:Int),[],p.2)):Rn (i7 m δ h) Q:=aP (r.imp fun p ⟨j,e,h1,h2,q⟩=>by
 rw [e];dsimp only;rw [if_pos ⟨h1,h2⟩];exact ⟨_,rfl,q⟩)
theorem sy {m:AM} {δ:DS} {h:MH} {Q:List D×W×MH→Prop} (r:Rn (m δ h) fun p=>∃d xs ws,p.1=[d]∧bY d p.2=some (xs,ws)∧Q (fz 0 xs,ws,p.2)):Rn (qQ m δ h) Q:=
 aP (r.imp fun p ⟨d,xs,ws,e1,e2,q⟩=>⟨_,by rw [e1];dsimp only;rw [e2];rfl,q⟩)
theorem u3 {caps:List (Option Nat)} {i:IM} {g:GM} {c:TM} {e:EM} {δ:DS} {h:MH} {Q:List D×MH→Prop} (r:Rn (i δ h) fun p=>Rn (b0 p.2.1 g c e p.1 (kl caps δ) p.2.2) fun q=>q.1.length≤sizeLine∧Q q):Rn (de caps i g c e δ h) Q:=
 aP (r.imp fun p r=>aP (r.imp fun q ⟨hz,hq⟩=>⟨q,by rw [if_pos hz],hq⟩))
theorem kT {ws:W} {g:GM} {c:TM} {e:EM} {h:MH} (hc:chk ws h=true) (f:D→Option D) (J:DS→Prop):∀{xs:List D} {δ:DS},J δ→
  (∀x∈xs,∀δ,J δ→Rn (g x δ h) fun q=>q.2=h∧Rn (c q.1 h) fun t=>t.2=h∧J q.1∧(t.1=true→∃y,f x=some y∧Rn (e q.1 h) fun p=>p=(y,h))∧(t.1=false→f x=none))→
  b0 ws g c e xs δ h=some (xs.filterMap f,h)
 | [],δ,_,_=>by unfold b0;rw [if_pos hc];rfl
 | x::xs,δ,hJ,ht=>by
  unfold b0
  rw [if_pos hc]
  obtain ⟨⟨δ1,h1⟩,e1,rfl,⟨t,h2⟩,e2,rfl,J1,q1,q2⟩:=ht x List.mem_cons_self δ hJ
  rw [e1]
  dsimp only [Option.bind_some] at e2 q1 q2 ⊢
  rw [e2]
  dsimp only [Option.bind_some]
  have ih:=kT hc f J J1 (xs:=xs) fun y hy=>ht y (List.mem_cons_of_mem _ hy)
  cases t with
  | true=>
   obtain ⟨y,ef,p,ep,rfl⟩:=q1 rfl
   rw [if_pos rfl,ep]
   dsimp only [Option.bind_some]
   rw [ih,List.filterMap_cons,ef];rfl
  | false=>
   rw [if_neg (by simp),ih,List.filterMap_cons,q2 rfl]
end Sm
namespace Sm
open PySem
theorem qt {kvs:List (L2.Key×D)} {k:L2.Key} {v:D} (h:k∉kvs.map (·.1)):putD kvs k v=kvs++[(k,v)]:=by
 unfold putD
 rw [if_neg]
 intro z
 obtain ⟨p,hp,e⟩:=List.any_eq_true.mp z
 exact h (List.mem_map.mpr ⟨p,hp,of_decide_eq_true e⟩)
theorem iW:∀{ps acc:List (L2.Key×D)},((acc++ps).map (·.1)).Nodup→d9 acc ps=acc++ps
 | [],acc,_=>(List.append_nil acc).symm
 | p::r,acc,nd=>by
  obtain ⟨k,v⟩:=p
  show d9 (putD acc k v) r=_
  have nk:k∉acc.map (·.1):=by
   rw [List.map_append,List.nodup_append] at nd
   intro m
   exact nd.2.2 k m k (by simp) rfl
  rw [qt nk,iW (by rw [List.append_assoc];exact nd),List.append_assoc]
  rfl
theorem gm {d:D} {kvs:List (L2.Key×D)} {h:MH} {x:Str} {v:D} (hd:cn d h=some kvs) (hv:gy kvs (.inr x)=some v):fIx d (.str x) h=some (v,h):=by
 simp only [fIx,hd,iY,Option.bind_some,hv,Option.map_some]
end Sm
namespace Sm
theorem qp {δ:DS} {h:MH} {i:Nat} {d:D} {Q:D×MH→Prop} (q:Q (d,h)) (e:δ[i]?=some (some d):=by with_unfolding_all rfl):Rn (af i δ h) Q:=xk e q
theorem ue {δ:DS} {h:MH} {n:Nat} {u:GMs} {xs:List D} {Q:DS×MH→Prop} (r:Rn (u xs δ h) Q) (hn:xs.length=n:=by with_unfolding_all rfl):Rn (gT n u (.tup xs) δ h) Q:=yq hn r
end Sm
namespace Sm
open PySem L2
section
variable {δ:DS} {h:MH}
theorem nE {a:EM} {l u:PM} {Q:D×MH→Prop} (hh:Rn (a δ h) fun p=>Rn (l δ p.2) fun q=>Rn (u δ q.2) fun r=>Rn (pJ p.1 q.1 r.1 r.2) Q):Rn (nX a l u δ h) Q:=aP (hh.imp fun _ x=>aP (x.imp fun _ y=>aP y))
end
end Sm
namespace Sm
open PySem L2
section
variable {h:MH} {Q:D×MH→Prop} {a b:Int} {x y:Str} {d e f g:D} {r:List D}
theorem wK {ds:List D} (q:Q (.tup ds,h)):Rn (ba ds h) Q:=⟨_,rfl,q⟩
theorem wL (q:Q (.int (-a),h)):Rn (g7 (.int a) h) Q:=⟨_,rfl,q⟩
theorem w_add (q:Q (.int (a+b),h)):Rn (aV (.int a) (.int b) h) Q:=⟨_,rfl,q⟩
theorem w_sub (q:Q (.int (a-b),h)):Rn (lH (.int a) (.int b) h) Q:=⟨_,rfl,q⟩
theorem w_lt (q:Q (.bl (decide (a < b)),h)):Rn (fLt (.int a) (.int b) h) Q:=⟨_,rfl,q⟩
theorem x4 (q:Q (.bl (decide (a≤b)),h)):Rn (fLe (.int a) (.int b) h) Q:=⟨_,rfl,q⟩
theorem x5 (q:Q (.bl (decide (b < a)),h)):Rn (fGt (.int a) (.int b) h) Q:=⟨_,rfl,q⟩
theorem x6 (q:Q (.bl (decide (b≤a)),h)):Rn (fGe (.int a) (.int b) h) Q:=⟨_,rfl,q⟩
theorem wV (q:Q (.bl (a==b),h)):Rn (cP (.int a) (.int b) h) Q:=⟨_,rfl,q⟩
theorem wN (q:Q (.bl (!(a==b)),h)):Rn (fv (.int a) (.int b) h) Q:=⟨_,rfl,q⟩
theorem wU (q:Q (.bl (x==y),h)):Rn (cP (.str x) (.str y) h) Q:=⟨_,rfl,q⟩
theorem wM (q:Q (.bl (!(x==y)),h)):Rn (fv (.str x) (.str y) h) Q:=⟨_,rfl,q⟩
theorem wR (q:Q (d,h)):Rn (fIx (.tup (d::r)) (.int 0) h) Q:=⟨_,by
 show ((atI (d::r) 0).map fun z=>(z,h))=_
 have:atI (d::r) 0=some d:=by unfold atI;rw [show ixN (d::r).length 0=some 0 by unfold ixN;simp;try omega];rfl
 rw [this];rfl,q⟩
theorem wQ (q:Q (e,h)):Rn (fIx (.tup (d::e::r)) (.int 1) h) Q:=⟨_,by
 show ((atI (d::e::r) 1).map fun z=>(z,h))=_
 have:atI (d::e::r) 1=some e:=by unfold atI;rw [show ixN (d::e::r).length 1=some 1 by unfold ixN;simp;try omega];rfl
 rw [this];rfl,q⟩
theorem wO (q:Q (f,h)):Rn (fIx (.tup (d::e::f::r)) (.int 2) h) Q:=⟨_,by
 show ((atI (d::e::f::r) 2).map fun z=>(z,h))=_
 have:atI (d::e::f::r) 2=some f:=by unfold atI;rw [show ixN (d::e::f::r).length 2=some 2 by unfold ixN;simp;try omega];rfl
 rw [this];rfl,q⟩
theorem uq (q:Q (.int r.length,h)):Rn (cU [.tup r] h) Q:=⟨_,rfl,q⟩
theorem ur (q:Q (.int r.length,h)):Rn (cU [.lv r] h) Q:=⟨_,rfl,q⟩
end
inductive All2 {α β:Type} (R:α→β→Prop):List α→List β→Prop where
 | nil:All2 R [] []
 | cons {x y xs ys}:R x y→All2 R xs ys→All2 R (x::xs) (y::ys)
theorem All2.length {α β:Type} {R:α→β→Prop}:∀{xs:List α} {ys:List β},All2 R xs ys→ys.length=xs.length
 | _,_,.nil=>rfl
 | _,_,.cons _ t=>by rw [List.length_cons,List.length_cons,All2.length t]
theorem All2.right {α β:Type} {R:α→β→Prop}:∀{xs:List α} {ys:List β},All2 R xs ys→∀y∈ys,∃x∈xs,R x y
 | _,_,.nil,_,h=>by cases h
 | _,_,.cons r t,y,h=>by
  rcases List.mem_cons.mp h with rfl | h
  ·exact ⟨_,List.mem_cons_self,r⟩
  ·obtain ⟨x,hx,r⟩:=All2.right t y h
   exact ⟨x,List.mem_cons_of_mem _ hx,r⟩
theorem gc {ws:W} {g:GM} {e:EM} (R:D→D→Prop):∀{xs:List D} {δ:DS} {h:MH} (J:Nat→DS→MH→Prop),J 0 δ h→(∀i δ h,i≤xs.length→J i δ h→chk ws h=true)→
  (∀i x δ h,xs[i]?=some x→J i δ h→Rn (g x δ h) fun q=>Rn (e q.1 q.2) fun y=>R x y.1∧J (i+1) q.1 y.2)→Rn (b0 ws g fA e xs δ h) fun p=>All2 R xs p.1∧∃δ',J xs.length δ' p.2
 | [],δ,h,J,hJ,hc,_=>by
  unfold b0
  rw [if_pos (hc 0 δ h (Nat.le_refl _) hJ)]
  exact ⟨_,rfl,.nil,δ,hJ⟩
 | x::xs,δ,h,J,hJ,hc,ht=>by
  unfold b0
  rw [if_pos (hc 0 δ h (Nat.zero_le _) hJ)]
  obtain ⟨⟨δ1,h1⟩,e1,⟨y,h2⟩,e2,r,J1⟩:=ht 0 x δ h rfl hJ
  dsimp only at e2 r J1
  obtain ⟨⟨ys,h3⟩,e3,a,δ',J2⟩:=gc R (xs:=xs) (fun i=>J (i+1)) J1 (fun i δ h hl=>hc (i+1) δ h (Nat.succ_le_succ hl)) fun i y δ h hy=>ht (i+1) y δ h (by simpa using hy)
  refine ⟨(y::ys,h3),?_,.cons r a,δ',J2⟩
  rw [e1]
  dsimp only [Option.bind_some]
  show ((some (true,h1)).bind _)=_
  dsimp only [Option.bind_some]
  rw [if_pos rfl,e2]
  dsimp only [Option.bind_some]
  rw [e3]
  rfl
theorem ik {ws:W} {g:GM} {c:TM} {e:EM} (R:D→D→Prop):∀{xs:List D} {δ:DS} {h:MH} (J:Nat→DS→MH→Prop),J 0 δ h→(∀i δ h,i≤xs.length→J i δ h→chk ws h=true)→
  (∀i x δ h,xs[i]?=some x→J i δ h→Rn (g x δ h) fun q=>Rn (c q.1 q.2) fun t=>(t.1=true→Rn (e q.1 t.2) fun y=>R x y.1∧J (i+1) q.1 y.2)∧(t.1=false→J (i+1) q.1 t.2))→Rn (b0 ws g c e xs δ h) fun p=>p.1.length≤xs.length∧(∀y∈p.1,∃x∈xs,R x y)∧∃δ',J xs.length δ' p.2
 | [],δ,h,J,hJ,hc,_=>by
  unfold b0
  rw [if_pos (hc 0 δ h (Nat.le_refl _) hJ)]
  exact ⟨_,rfl,Nat.le_refl _,fun _ z=>(nomatch z),δ,hJ⟩
 | x::xs,δ,h,J,hJ,hc,ht=>by
  unfold b0
  rw [if_pos (hc 0 δ h (Nat.zero_le _) hJ)]
  obtain ⟨⟨δ1,h1⟩,e1,⟨t,h2⟩,e2,q1,q2⟩:=ht 0 x δ h rfl hJ
  dsimp only at e2 q1 q2
  rw [e1]
  dsimp only [Option.bind_some]
  rw [e2]
  dsimp only [Option.bind_some]
  have next:=fun {δ':DS} {h':MH} (J1:J 1 δ' h')=>ik R (xs:=xs) (fun i=>J (i+1)) J1 (fun i δ h hl=>hc (i+1) δ h (Nat.succ_le_succ hl)) fun i y δ h hy=>ht (i+1) y δ h (by simpa using hy)
  cases t with
  | true=>
   obtain ⟨⟨y,h3⟩,e3,r,J1⟩:=q1 rfl
   dsimp only at r J1
   obtain ⟨⟨ys,h4⟩,e4,l,a,δ',J2⟩:=next J1
   refine ⟨(y::ys,h4),?_,Nat.succ_le_succ l,fun z hz=>?_,δ',J2⟩
   ·rw [if_pos rfl,e3]
    dsimp only [Option.bind_some]
    rw [e4]
    rfl
   ·rcases List.mem_cons.mp hz with rfl | hz
    ·exact ⟨x,List.mem_cons_self,r⟩
    ·obtain ⟨u,hu,r⟩:=a z hz
     exact ⟨u,List.mem_cons_of_mem _ hu,r⟩
  | false=>
   obtain ⟨⟨ys,h4⟩,e4,l,a,δ',J2⟩:=next (q2 rfl)
   refine ⟨(ys,h4),?_,Nat.le_succ_of_le l,fun z hz=>?_,δ',J2⟩
   ·rw [if_neg (by decide),e4]
   ·obtain ⟨u,hu,r⟩:=a z hz
    exact ⟨u,List.mem_cons_of_mem _ hu,r⟩
end Sm
namespace L2
open PySem PySem.Spec PyProof.Rows
section
variable {X:Cx} {nm:Str} {tb:List (Str×List Int)} {i:Expr} {ti:TE} {p pos:Pos}
end
end L2
namespace Sm
open PySem L2 PySem.Spec PyProof.Rows
section
variable {X:Cx} {nm:Str} {tb:List (Str×List Int)} {i:Expr} {mi:EM} {p pos:Pos}
end
end Sm
namespace Hd
open PySem PySem.W PySem.Spec PyProof.Rows L2 Sm
def uh:List Value→Option (List Int)
 | []=>some []
 | .int i _::r=>(uh r).map fun is=>i::is
 | _=>none
def um (v:Value) (t:String):Bool:=match v with
 | .type s=>decide (s=t)
 | _=>false
def rowAt (h:Heap) (e:DictEntry):Option (Str×Int×List Int):=match e.key with
 | .str x _=>match e.val with
  | .ref t=>match h.get? t with
   | some u=>if um u.cls "tuple"&&u.dict.isNone then (match u.data with
     | .seq its _=>if its.size≤100 then (uh its.toList).map fun is=>(x,e.hash,is) else none
     | _=>none) else none
   | none=>none
  | _=>none
 | _=>none
def iF (h:Heap):List DictEntry→Option (List (Str×Int×List Int))
 | []=>some []
 | e::r=>(rowAt h e).bind fun x=>(iF h r).map fun xs=>x::xs
def tabAt (h:Heap) (nm:Str):Option (List (Str×Int×List Int)):=match h.nsMap mainGlobals nm with
 | some (.ref a)=>if a==sysModules then none else (match h.get? a with
  | some o=>if um o.cls "dict"&&o.dict.isNone&&decide (o.slots=#[]) then (match o.data with
    | .dict es _=>iF h es.toList
    | _=>none) else none
  | none=>none)
 | _=>none
abbrev Sub (h h':Heap):Prop:=∀b o,h.get? b=some o→h'.get? b=some o
theorem nC {h h':Heap} (k:Sub h h') {e:DictEntry} {r:Str×Int×List Int} (x:rowAt h e=some r):rowAt h' e=some r:=by
 unfold rowAt at x ⊢
 split at x
 ·split at x
  ·split at x
   ·rename_i u hu
    rw [k _ _ hu]
    exact x
   ·cases x
  ·cases x
 ·cases x
theorem gW {h h':Heap} (k:Sub h h'):∀{es:List DictEntry} {r:List (Str×Int×List Int)},iF h es=some r→iF h' es=some r
 | [],_,x=>x
 | e::es,r,x=>by
  unfold iF at x ⊢
  obtain ⟨y,e1,x⟩:=Option.bind_eq_some_iff.mp x
  obtain ⟨ys,e2,x⟩:=Option.map_eq_some_iff.mp x
  rw [nC k e1,gW k e2]
  exact congrArg some x
theorem uB {h h':Heap} (k:Sub h h') {nm:Str} {r:List (Str×Int×List Int)} (x:tabAt h nm=some r):tabAt h' nm=some r:=by
 have hg:∀v,h.nsMap mainGlobals nm=some v→h'.nsMap mainGlobals nm=some v:=fun v e=>by
  unfold Heap.nsMap at e ⊢
  split at e
  ·rename_i o ho
   rw [k _ _ ho]
   exact e
  ·cases e
 unfold tabAt at x ⊢
 split at x
 ·rename_i a ha
  rw [hg _ ha]
  dsimp only
  split at x
  ·cases x
  ·rename_i hs
   rw [if_neg hs]
   split at x
   ·rename_i o ho
    rw [k _ _ ho]
    dsimp only
    split at x
    ·rename_i hc
     rw [if_pos hc]
     split at x
     ·exact gW k x
     ·cases x
    ·cases x
   ·cases x
 ·cases x
end Hd
namespace L2
open PySem PySem.Spec PyProof.Rows
section
variable {X:Cx} {pins:List (Addr×Obj)} {σ:St} {H H':Hp} {s:Shared} {h':Heap}
def g6 (H:Hp):List Addr→List (List V)→Hp
 | a::as,t::ts=>upd (g6 H as ts) a (.tup t)
 | _,_=>H
theorem eG {b:Addr}:∀{as:List Addr} {ts:List (List V)},b∉as→g6 H as ts b=H b
 | [],_,_=>rfl
 | _::_,[],_=>rfl
 | a::as,t::ts,h=>by
  rw [g6,av fun z=>h (by rw [z];exact List.mem_cons_self)]
  exact eG fun z=>h (List.mem_cons_of_mem _ z)
theorem oA:∀{as:List Addr} {ts:List (List V)} {b:Addr} {o:HO},as.length=ts.length→g6 H as ts b=some o→b∈as→∃(j:Nat) (t:List V),as[j]?=some b∧ts[j]?=some t∧o=.tup t
 | a::as,t::ts,b,o,hl,e,hb=>by
  by_cases z:b=a
  ·subst z
   rw [g6,aN] at e
   cases e
   exact ⟨0,t,rfl,rfl,rfl⟩
  ·rw [g6,av z] at e
   obtain ⟨j,t',e1,e2,e3⟩:=oA (by simpa using hl) e ((List.mem_cons.mp hb).resolve_left z)
   exact ⟨j+1,t',by simpa using e1,by simpa using e2,e3⟩
theorem jP:∀as:List Addr,Vals (as.map V.ref) (as.map Value.ref)
 | []=>.nil
 | a::r=>.cons rfl (jP r)
end
end L2
namespace Sm
open PySem L2 PySem.Spec PyProof.Rows
section
variable {X:Cx}
end
end Sm
namespace Sb
open PySem L2 PySem.Spec PyProof.Rows
open Builtin.SmallTypes (nextOf ownedTupleIsFree ownedTupleHandOut)
variable {P:Program} {w:World} {A:Around} {E:Value→Shared→Prop} {s:Shared} {b c:Bool}
abbrev fP (h:Heap) (z T U:Addr) (t:Addr) (f:Bool):Prop:=
 h.get? z=some {cls:=.type "zip",dict:=none,data:=.fields #[rawInt t,.bool f,.bool false,.ref T,.ref U],slots:=#[]}
theorem alive {a:Addr} {o:Obj} {Q:Option Obj→Shared→Prop} (ho:s.heap.get? a=some o) (h:Q (some o) s):wpAny (model P w) A (loadIfAlive a) Q E s:=by
 have h':Q (s.heap.get? a) s:=by rw [ho];exact h
 exact fun _ _ _=>h'
theorem seen {z T U t:Addr} {f:Bool} {C:Bool→Shared→Prop} (hz:fP s.heap z T U t f) (k:∀k₁,fP k₁ z T U t true→Heap.SameBut z s.heap k₁→C false {s with heap:=k₁}):
  wpAny (model P w) A (if (Value.bool f !=Value.bool true)=true then do setField (.ref z) 1 (.bool true);pure false else pure false) C E s:=by
 cases f with
 | true=>rw [if_neg (by decide)];exact wpAny_pure (k s.heap hz (Heap.SameBut.refl ..))
 | false=>
  rw [if_pos (by decide)]
  refine wpAny_bind (wpAny_setField_rec hz (by simp) fun k₁ z₁ t₁=>wpAny_pure (k k₁ ?_ t₁))
  exact z₁
theorem rP {z T U p q l m t:Addr} {f:Bool} {ot:Obj} {i:Nat} {xs ys:Array Value} {x y:Value} {Q:Option Value→Shared→Prop} (D:Zp z T U p q l m) (hz:fP s.heap z T U t f) (ht:s.heap.get? t=some ot) (hT:IsPair s.heap T (.ref p) (.ref q))
  (h1:At b s.heap p l i) (h2:At c s.heap q m i) (hl:Of b s.heap l xs) (hm:Of c s.heap m ys) (hx:xs[i]?=some x) (hy:ys[i]?=some y)
  (k:∀h',fP h' z T U t true→At b h' p l (i+1)→At c h' q m (i+1)→IsPair h' s.heap.objs.size x y→h'.objs.size=s.heap.objs.size+1→
   (∀a o,a≠z→a≠p→a≠q→s.heap.get? a=some o→h'.get? a=some o)→Q (some (.ref s.heap.objs.size)) {s with heap:=h'}):wpAny (model P w) A (pyNext (.ref z)) Q E s:=by
 have ty:s.TypeIs (.ref z) "zip":=⟨_,hz,rfl⟩
 unfold pyNext
 refine wpAny_bind (wpAny_attempt (wpAny_callSpecial?_slot (name:=Str.ofString "__next__") ty F.slot_zip_next (wpAny_call_entry F.slot_zip_next ty F.entry_zip_next ?_ (F.args_zip_next_1 _))))
 show wpAny _ _ (field (.ref z) 2 >>=_) _ _ _
 refine wpAny_bind (wpAny_field hz rfl (x:=.bool false) rfl ?_)
 show wpAny _ _ (field (.ref z) 3 >>=_) _ _ _
 refine wpAny_bind (wpAny_field hz rfl (x:=.ref T) rfl (wpAny_bind (wpAny_seqItems hT rfl ?_)))
 show wpAny _ _ (ownedTupleIsFree (.ref z) >>=_) _ _ _
 refine wpAny_bind ?_
 unfold ownedTupleIsFree
 refine wpAny_bind (wpAny_field hz rfl (x:=rawInt t) rfl ?_)
 show wpAny _ _ (loadIfAlive ((t:Int).toNat) >>=_) _ _ _
 rw [Int.toNat_natCast]
 refine wpAny_bind (alive ht ?_)
 simp only [Option.isNone_some,Bool.false_eq_true,if_false]
 refine wpAny_bind (wpAny_field hz rfl (x:=.bool f) rfl ?_)
 refine seen hz fun k₁ z₁ t₁=>?_
 simp only [Bool.false_eq_true,if_false]
 have hT₁:IsPair k₁ T (.ref p) (.ref q):=t₁.extBut _ _ D.Tz hT
 refine wpAny_bind ?_
 rw [←Array.forIn_toList]
 simp only [List.forIn_cons,List.forIn_nil]
 refine wpAny_bind (wpAny_bind (wpAny_holding ?_))
 show wpAny _ _ (nextOf (.ref p) >>=_) _ _ _
 refine wpAny_bind (iV (h1.up fun o e=>t₁.extBut _ o D.pz e) (hl.up fun o e=>t₁.extBut _ o D.lz e) hx fun k₂ p₂ t₂=>wpAny_pure ?_)
 refine wpAny_pure ?_
 refine wpAny_bind (wpAny_bind (wpAny_holding ?_))
 show wpAny _ _ (nextOf (.ref q) >>=_) _ _ _
 refine wpAny_bind (iV (h2.up fun o e=>t₂.extBut _ o D.pq.symm (t₁.extBut _ o D.qz e)) (hm.up fun o e=>t₂.extBut _ o D.mp (t₁.extBut _ o D.mz e)) hy fun k₃ q₃ t₃=>wpAny_pure ?_)
 refine wpAny_pure ?_
 refine wpAny_pure ?_
 dsimp only
 refine wpAny_bind (wpAny_newTuple ?_ (hsz:=by show 2≤sizeLine;rw [sizeLine_eq];omega))
 have sz:k₃.objs.size=s.heap.objs.size:=by rw [t₃.1,t₂.1,t₁.1]
 have z₃:fP k₃ z T U t true:=t₃.extBut _ _ D.qz.symm (t₂.extBut _ _ D.pz.symm z₁)
 have up₃:∀a o,a≠z→a≠p→a≠q→s.heap.get? a=some o→k₃.get? a=some o:=fun a o a1 a3 a4 e=>t₃.extBut _ _ a4 (t₂.extBut _ _ a3 (t₁.extBut _ _ a1 e))
 have p₃:At b k₃ p l (i+1):=p₂.up fun o e=>t₃.extBut _ o D.pq e
 refine wpAny_pure ⟨_,rfl,wpAny_pure ?_⟩
 show Q (some (.ref k₃.objs.size)) _
 rw [sz]
 refine k (k₃.push {cls:=.type "tuple",data:=.seq #[x,y]}) (Heap.get?_push_of_some _ z₃) (p₃.up fun o e=>Heap.get?_push_of_some _ e) (q₃.up fun o e=>Heap.get?_push_of_some _ e) ?_ (by rw [Heap.size_push,sz]) fun a o a1 a3 a4 e=>Heap.get?_push_of_some _ (up₃ a o a1 a3 a4 e)
 rw [←sz]
 exact Heap.get?_push_size _ rfl
theorem lZ {z T U p q l m t:Addr} {f:Bool} {ot:Obj} {i:Nat} {xs ys:Array Value} {Q:Option Value→Shared→Prop} (hh:A.handled=none) (D:Zp z T U p q l m) (hz:fP s.heap z T U t f) (ht:s.heap.get? t=some ot) (hT:IsPair s.heap T (.ref p) (.ref q))
  (h1:At b s.heap p l i) (h2:At c s.heap q m i) (hl:Of b s.heap l xs) (hm:Of c s.heap m ys) (he:xs[i]?=none∨ys[i]?=none)
  (k:∀h',(∀a o,a≠z→a≠p→a≠q→s.heap.get? a=some o→h'.get? a=some o)→Q none {s with heap:=h'}):wpAny (model P w) A (pyNext (.ref z)) Q E s:=by
 have ty:s.TypeIs (.ref z) "zip":=⟨_,hz,rfl⟩
 unfold pyNext
 refine wpAny_bind (wpAny_attempt (wpAny_callSpecial?_slot (name:=Str.ofString "__next__") ty F.slot_zip_next (wpAny_call_entry F.slot_zip_next ty F.entry_zip_next ?_ (F.args_zip_next_1 _))))
 show wpAny _ _ (field (.ref z) 2 >>=_) _ _ _
 refine wpAny_bind (wpAny_field hz rfl (x:=.bool false) rfl ?_)
 show wpAny _ _ (field (.ref z) 3 >>=_) _ _ _
 refine wpAny_bind (wpAny_field hz rfl (x:=.ref T) rfl (wpAny_bind (wpAny_seqItems hT rfl ?_)))
 show wpAny _ _ (ownedTupleIsFree (.ref z) >>=_) _ _ _
 refine wpAny_bind ?_
 unfold ownedTupleIsFree
 refine wpAny_bind (wpAny_field hz rfl (x:=rawInt t) rfl ?_)
 show wpAny _ _ (loadIfAlive ((t:Int).toNat) >>=_) _ _ _
 rw [Int.toNat_natCast]
 refine wpAny_bind (alive ht ?_)
 simp only [Option.isNone_some,Bool.false_eq_true,if_false]
 refine wpAny_bind (wpAny_field hz rfl (x:=.bool f) rfl ?_)
 refine seen hz fun k₁ z₁ t₁=>?_
 simp only [Bool.false_eq_true,if_false]
 refine wpAny_bind ?_
 rw [←Array.forIn_toList]
 simp only [List.forIn_cons,List.forIn_nil]
 refine wpAny_bind (wpAny_bind (wpAny_holding ?_))
 show wpAny _ _ (nextOf (.ref p) >>=_) _ _ _
 cases ex:xs[i]? with
 | none=>
  refine wpAny_bind (mI hh (h1.up fun o e=>t₁.extBut _ o D.pz e) (hl.up fun o e=>t₁.extBut _ o D.lz e) ex fun k₂ e t₂ ⟨oe,hoe,hce⟩=>?_)
  refine wpAny_bind (wpAny_isInstance (T:="StopIteration") (b:=true) ⟨oe,hoe,hce⟩ isSubtype_stop (wpAny_pure (k _ fun a o a1 a3 _ r=>t₂ _ _ a3 (t₁.extBut _ _ a1 r))))
 | some x=>
  have ey:ys[i]?=none:=by rcases he with r | r;rw [ex] at r;cases r;exact r
  refine wpAny_bind (iV (h1.up fun o e=>t₁.extBut _ o D.pz e) (hl.up fun o e=>t₁.extBut _ o D.lz e) ex fun k₂ p₂ t₂=>wpAny_pure ?_)
  refine wpAny_pure ?_
  refine wpAny_bind (wpAny_bind (wpAny_holding ?_))
  show wpAny _ _ (nextOf (.ref q) >>=_) _ _ _
  refine wpAny_bind (mI hh (h2.up fun o e=>t₂.extBut _ o D.pq.symm (t₁.extBut _ o D.qz e)) (hm.up fun o e=>t₂.extBut _ o D.mp (t₁.extBut _ o D.mz e)) ey fun k₄ e t₄ ⟨oe,hoe,hce⟩=>?_)
  refine wpAny_bind (wpAny_isInstance (T:="StopIteration") (b:=true) ⟨oe,hoe,hce⟩ isSubtype_stop (wpAny_pure (k _ fun a o a1 a3 a4 r=>t₄ _ _ a4 (t₂.extBut _ _ a3 (t₁.extBut _ _ a1 r)))))
structure Zst (b c:Bool) (lo:Nat) (z T U p q l m:Addr) (i:Nat) (h:Heap):Prop where
 rec_:IsZip h z T U .none∨∃t f ot,fP h z T U t f∧h.get? t=some ot∧lo≤t
 T_:IsPair h T (.ref p) (.ref q)
 U_:∃u v,IsPair h U u v
 p_:At b h p l i
 q_:At c h q m i
theorem dm {lo:Nat} {t d:Addr} (h:lo≤t) (hd:d < lo):t≠d:=fun e=>absurd (Nat.lt_of_lt_of_le hd h) (by rw [e];exact Nat.lt_irrefl _)
theorem Zst.but {lo:Nat} {z T U p q l m d:Addr} {i:Nat} {h h':Heap} (x:Zst b c lo z T U p q l m i h) (hd:∀t∈[z,T,U,p,q],t≠d) (hl:d < lo) (k:∀a o,a≠d→h.get? a=some o→h'.get? a=some o):Zst b c lo z T U p q l m i h':=
 ⟨x.rec_.imp (fun y=>k _ _ (hd z (by simp)) y) fun ⟨t,f,ot,h1,h2,h3⟩=>⟨t,f,ot,k _ _ (hd z (by simp)) h1,k _ _ (dm h3 hl) h2,h3⟩,k _ _ (hd T (by simp)) x.T_,let ⟨u,v,e⟩:=x.U_;⟨u,v,k _ _ (hd U (by simp)) e⟩,x.p_.up fun o e=>k _ o (hd p (by simp)) e,x.q_.up fun o e=>k _ o (hd q (by simp)) e⟩
theorem Zst.next {lo:Nat} {z T U p q l m:Addr} {i:Nat} {xs ys:Array Value} {x y:Value} {Q:Option Value→Shared→Prop} (D:Zp z T U p q l m) (st:Zst b c lo z T U p q l m i s.heap) (hlo:z < lo∧U < lo∧p < lo∧q < lo) (hs:lo≤s.heap.objs.size)
  (hl:Of b s.heap l xs) (hm:Of c s.heap m ys) (hx:xs[i]?=some x) (hy:ys[i]?=some y)
  (k:∀h',Zst b c lo z T U p q l m (i+1) h'→IsPair h' s.heap.objs.size x y→h'.objs.size=s.heap.objs.size+1→
   (∀a o,a≠z→a≠U→a≠p→a≠q→s.heap.get? a=some o→h'.get? a=some o)→Q (some (.ref s.heap.objs.size)) {s with heap:=h'}):wpAny (model P w) A (pyNext (.ref z)) Q E s:=by
 obtain ⟨hr,hT,⟨u,v,hU⟩,h1,h2⟩:=st
 rcases hr with hz | ⟨t,f,ot,hz,ht,hlt⟩
 ·refine pY D hz hT hU h1 h2 hl hm hx hy fun h' a1 a2 a3 a4 a5 a6 a7=>?_
  exact k h' ⟨.inr ⟨_,false,_,a1,a5,hs⟩,a7 _ _ D.Tz D.TU D.Tp D.Tq hT,⟨_,_,a2⟩,a3,a4⟩ a5 a6 a7
 ·refine rP D hz ht hT h1 h2 hl hm hx hy fun h' a1 a3 a4 a5 a6 a7=>?_
  exact k h' ⟨.inr ⟨t,true,ot,a1,a7 _ _ (dm hlt hlo.1) (dm hlt hlo.2.2.1) (dm hlt hlo.2.2.2) ht,hlt⟩,a7 _ _ D.Tz D.Tp D.Tq hT,⟨u,v,a7 _ _ D.Uz D.Up D.Uq hU⟩,a3,a4⟩ a5 a6 fun a o n1 _ n3 n4 e=>a7 a o n1 n3 n4 e
theorem Zst.done {lo:Nat} {z T U p q l m:Addr} {i:Nat} {xs ys:Array Value} {Q:Option Value→Shared→Prop} (hh:A.handled=none) (D:Zp z T U p q l m) (st:Zst b c lo z T U p q l m i s.heap)
  (hl:Of b s.heap l xs) (hm:Of c s.heap m ys) (he:xs[i]?=none∨ys[i]?=none)
  (k:∀h',(∀a o,a≠z→a≠U→a≠p→a≠q→s.heap.get? a=some o→h'.get? a=some o)→Q none {s with heap:=h'}):wpAny (model P w) A (pyNext (.ref z)) Q E s:=by
 obtain ⟨hr,hT,⟨u,v,hU⟩,h1,h2⟩:=st
 rcases hr with hz | ⟨t,f,ot,hz,ht,hlt⟩
 ·exact rR hh D hz hT hU h1 h2 hl hm he k
 ·exact lZ hh D hz ht hT h1 h2 hl hm he fun h' a=>k h' fun a' o n1 _ n3 n4 e=>a a' o n1 n3 n4 e
end Sb
namespace PySem
theorem fw:typeLookup (.type "zip") "__getattr__"=pure none:=by rw [typeLookup_type,builtinLookup_eq_fast];kernel_rfl
theorem df:entryFor table "zip.__getattribute__"=some Builtin.«object.__getattribute__»:=
 entryFor_alias (id':="object.__getattribute__") (by kernel_rfl) (by decide+kernel) (by decide+kernel) (by kernel_rfl)
theorem cY (a:Addr) (fs:Array Value) (sl:Array (Option Value)) (name:Str) (u:Tok) (hmiss:typeLookup (.type "zip") name=pure none) (hname:(["__module__","__name__","__qualname__","__doc__","__annotations__"]:List Str).contains name=false) (hsz:name.length+100≤sizeLine:=by size_fits):
  Meets (Builtin.«object.__getattribute__» ⟨[.ref a,.str name u],[]⟩) (fun A R s=>s.heap.get? a=some {cls:=.type "zip",dict:=none,data:=.fields fs,slots:=sl}∧raisesAttr (.ref a) name A R s):=
 Meets.of_wp fun prog w A R s hs=>by
  obtain ⟨hp,g,d,tk,os⟩:=s
  obtain ⟨hx,hs⟩:=hs
  have hT:(⟨hp,g,d,tk,os⟩:Shared).TypeIs (.ref a) "zip":=⟨_,hx,rfl⟩
  unfold Builtin.«object.__getattribute__»
  repeat (any_goals (first | assumption | wp_step))
  simp only [hname,Bool.false_eq_true,if_false]
  repeat (any_goals (first | assumption | wp_step))
  exact wpAny_raiseAttrError hs.1 hs.2 (attrMsg_fits (by decide+kernel) hsz)
end PySem
namespace L2
open PySem PySem.Spec PyProof.Rows
theorem mO:typeLookup (.type "zip") "keys"=pure none:=by rw [typeLookup_type,builtinLookup_eq_fast];kernel_rfl
theorem tw {prog:Program} {w:World} {A:Around} {E:Value→Shared→Prop} {s:Shared} {a:Addr} {fs:Array Value} {Q:Option Value→Shared→Prop}
  (hx:s.heap.get? a=some {cls:=.type "zip",dict:=none,data:=.fields fs,slots:=#[]}) (hA:A.handled=none)
  (h:∀h' tk,(∀b o,s.heap.get? b=some o→h'.get? b=some o)→Q none {s with heap:=h',toks:=tk}):
  wpAny (model prog w) A (getAttr? (.ref a) "keys") Q E s:=by
 obtain ⟨hp,g,d,tk,os⟩:=s
 have hT:∀tk',(⟨hp,g,d,tk',os⟩:Shared).TypeIs (.ref a) "zip":=fun _=>⟨_,hx,rfl⟩
 have f1:=sub_AttributeError
 have f3:=F.slot_zip_getattribute.lookup
 have f4:=F.slot_zip_getattribute.bind (.ref a)
 have f5:=fw
 unfold getAttr? getAttrBy? getAttrBy
 repeat (any_goals (first | assumption | exact hT _ | ((with_reducible show wpAny _ _ (call (Value.builtin "zip.__getattribute__") _ _) _ _ _);refine call_meets F.slot_zip_getattribute (hT _) df (F.args_zip_getattribute_2 _ _) (cY a fs #[] "keys" _ mO (by decide+kernel) (by decide)) ⟨hx,hA,fun h' tk' e hx'=>?_⟩) | wp_step))
 obtain ⟨t',u',he⟩:=hx'.there
 have hE:∀tk',(⟨h',g,d,tk',os⟩:Shared).TypeIs (.ref e) "AttributeError":=fun _=>⟨_,he,rfl⟩
 show wpAny _ _ (getattributeRaised _ _ _ _ _ _ _) _ _ _
 unfold getattributeRaised
 repeat (any_goals (first | assumption | exact hE _ | wp_step))
 exact h _ _ hx'.keeps
section
variable {X:Cx}
theorem Inv.jR {pins:List (Addr×Obj)} {σ:St} {H:Hp} {s:Shared} {h':Heap} {t':Nat} {fp:List Addr} (I:Inv X pins σ H s) (k:∀b o,b∉fp→s.heap.get? b=some o→h'.get? b=some o) (hf:∀b∈fp,dg X pins H b):Inv X pins σ H {s with heap:=h',toks:=t'}:=by
 have nit:∀b u,H b=some u→b∉fp:=fun b u e z=>by rw [(hf b z).1] at e;cases e
 refine I.step (g':=s.gens) (d':=s.drawn) (ch:=fp) (fun b hb=>?_) (fun b o _ _ hc e _=>k b o hc e) (fun b o _ _ hc e _=>⟨o.slots,k b o hc e⟩) (fun _ _ _ _ n=>n)
  (fun b o hc e=>⟨o,k b o hc e⟩) (fun _ _ e=>e) (fun _ _ _ e=>e) (fun b ps e=>⟨#[],by rw [e];simp⟩) (fun m hm=>?_) (fun b u e=>?_) I.bare
 ·obtain ⟨_,h1,_,h3,h4,h5⟩:=hf b hb
  exact ⟨h3,h1,h4,h5⟩
 ·obtain ⟨o,es,ep,ho,r⟩:=hm
  exact ⟨o,es,ep,k _ o (fun z=>(hf _ z).2.1 rfl) ho,r⟩
 ·refine (I.hok b u e).jr (fun c v hc q=>k c v ?_ q) (fun _ q=>q) fun _ _ q=>q
  rcases hc with z | z
  ·rw [z];exact nit b u e
  ·exact nit c _ z
theorem SqL.off {K:PySem.W.Frag} {H:Hp} {a d:Addr} {ys:List V} {o:HO} (h:SqL K H a ys) (hd:H d=none):SqL K (upd H d o) a ys:=by
 rcases h with h | h
 ·rcases h with h | ⟨u,h⟩
  ·exact .inl (.inl (by rw [av (az h hd)];exact h))
  ·exact .inl (.inr ⟨u,by rw [av (az h hd)];exact h⟩)
 ·exact .inr h
end
end L2
namespace L2
open PySem PySem.Spec PyProof.Rows Sb
section
variable {X:Cx}
theorem SqB.off {b:Bool} {K:PySem.W.Frag} {H:Hp} {a d:Addr} {ys:List V} {o:HO} (h:SqB b K H a ys) (hd:H d=none):SqB b K (upd H d o) a ys:=by
 cases b with
 | true=>exact SqL.off (show SqL K H a ys from h) hd
 | false=>exact SqT.off (show SqT K H a ys from h) hd
structure Side (xs ys:List V) (kvs:List (Key×V)):Prop where
 len:kvs.length=min xs.length ys.length
 at_:∀(i:Nat) kv,kvs[i]?=some kv→xs[i]?=some (kV kv.1)∧ys[i]?=some kv.2
theorem n6 {A:Around} {pins:List (Addr×Obj)} {σ:St} {H:Hp} {b c:Bool} {z T U p q l m d:Addr} {lo:Nat} {xs ys:List V} {kvs:List (Key×V)} {R:Result→Shared→Prop} (hA:A.handled=none) (D:Zp z T U p q l m) (hl:SqB b X.K H l xs) (hm:SqB c X.K H m ys) (hr:Side xs ys kvs) (hk:kvs.length≤1000000) (hd:H d=none)
  (hlo:z < lo∧U < lo∧p < lo∧q < lo) (hdl:d < lo) (hdn:∀t∈[z,T,U,p,q],t≠d) (hf:∀t∈[z,U,p,q],dg X pins H t)
  (h:∀s',Inv X pins σ (upd H d (.dK (aA [] kvs))) s'→R (.ok (.ret .none)) s'):∀(n i:Nat) (s:Shared),kvs.length-i=n→i≤kvs.length→lo≤s.heap.objs.size→Zst b c lo z T U p q l m i s.heap→Inv X pins σ (upd H d (.dK (aA [] (kvs.take i)))) s→
   codeAny (model X.prog X.w) A (.builtin "dict.update.loop" ⟨[.ref d,.ref z,rawInt i,.none],[]⟩) R s:=by
 have hsz:sizeLine≥1000001:=by decide
 have hfd:∀o,∀t∈[z,U,p,q],dg X pins (upd H d o) t:=fun o t ht=>by
  obtain ⟨h0,h1⟩:=hf t ht
  refine ⟨?_,h1⟩
  rw [av (hdn t (by simp at ht ⊢;rcases ht with rfl | rfl | rfl | rfl <;> simp))]
  exact h0
 intro n
 induction n with
 | zero=>
  intro i s hn hi hsl st I
  have ei:i=kvs.length:=by omega
  refine codeAny_builtin br ?_
  rw [Around.under_plainId aG _]
  obtain ⟨its,rv,pl⟩:=Sb.SqB.of I (L2.SqB.off hl hd (o:=.dK (aA [] (kvs.take i))))
  obtain ⟨jts,rw_,pm⟩:=Sb.SqB.of I (L2.SqB.off hm hd (o:=.dK (aA [] (kvs.take i))))
  have e1:=rv.length
  have e2:=rw_.length
  have e3:=hr.len
  show wpAny _ _ (pyNext (.ref z) >>=_) _ _ s
  refine wpAny_bind (st.done hA D pl pm ?_ fun h' up=>?_)
  ·rcases Nat.le_total xs.length ys.length with y | y
   ·left;simp;omega
   ·right;simp;omega
  show wpAny _ _ (Builtin.Dict.addKeywords d [] >>=fun _=>ret .none) _ _ _
  have I':=I.jR (t':=s.toks) (h':=h') (fp:=[z,U,p,q]) (fun b o hb e=>up b o (fun y=>hb (by simp [y])) (fun y=>hb (by simp [y])) (fun y=>hb (by simp [y])) (fun y=>hb (by simp [y])) e) (hfd _)
  refine wpAny_bind (wpAny_pure (wpAny_pure ?_))
  rw [ei,List.take_length] at I'
  exact h _ I'
 | succ n ih=>
  intro i s hn hi hsl st I
  have hi':i < kvs.length:=by omega
  refine codeAny_builtin br ?_
  rw [Around.under_plainId aG _]
  obtain ⟨its,rv,pl⟩:=Sb.SqB.of I (L2.SqB.off hl hd (o:=.dK (aA [] (kvs.take i))))
  obtain ⟨jts,rw_,pm⟩:=Sb.SqB.of I (L2.SqB.off hm hd (o:=.dK (aA [] (kvs.take i))))
  have hki:kvs[i]?=some (kvs[i]'hi'):=List.getElem?_eq_getElem _
  generalize kvs[i]'hi'=kv at hki
  obtain ⟨hxi,hyi⟩:=hr.at_ i kv hki
  obtain ⟨ku,hku,rk⟩:=rv.get hxi
  obtain ⟨vu,hvu,rw2⟩:=rw_.get hyi
  show wpAny _ _ (pyNext (.ref z) >>=_) _ _ s
  refine wpAny_bind (st.next D hlo hsl pl pm (x:=ku) (y:=vu) (by simpa using hku) (by simpa using hvu) fun h' st' pt sz up=>?_)
  have I':=I.jR (t':=s.toks) (h':=h') (fp:=[z,U,p,q]) (fun b o hb e=>up b o (fun y=>hb (by simp [y])) (fun y=>hb (by simp [y])) (fun y=>hb (by simp [y])) (fun y=>hb (by simp [y])) e) (hfd _)
  dsimp only
  refine wpAny_bind (wpAny_holding ?_)
  refine wpAny_bind (wpAny_tryCatch ?_)
  unfold Builtin.Dict.pairItems
  refine wpAny_bind (wpAny_typeOf (T:="tuple") ⟨_,pt,rfl⟩ ?_)
  rw [if_pos (by decide)]
  refine wpAny_bind (wpAny_seqItems pt rfl (wpAny_pure ?_))
  show wpAny _ _ (holding [ku,vu] (dictSet d ku vu)) _ _ _
  refine wpAny_holding ?_
  have ed:upd H d (.dK (aA [] (kvs.take i))) d=some (.dK (aA [] (kvs.take i))):=aN
  obtain ⟨zz,hdm,vs,rel,dd⟩:=jc I'.hok ed
  have hz3:vs.length≤sizeLine:=by rw [←rel.length];exact zz
  unfold dictSet
  refine wpAny_holding (wpAny_bind ((aW X.prog X.w).pyHash (eD rk) ?_))
  refine wpAny_dictSetHashed_pairs (hsz:=hz3) (eD rk) dd fun h2 dd' hs=>?_
  have he:∃q,h2.get? d=some q:=let ⟨q,_,_,hq,_⟩:=dd';⟨q,hq⟩
  have e2:putK (aA [] (kvs.take i)) kv.1 kv.2=aA [] (kvs.take (i+1)):=by
   rw [List.take_succ,hki,←eW]
   rfl
  have hl2:(putK (aA [] (kvs.take i)) kv.1 kv.2).length≤sizeLine:=by
   rw [e2]
   have:=cf (kvs.take (i+1)) []
   rw [List.length_take] at this
   simp only [List.length_nil] at this
   omega
  have I2:=ft (t':=s.toks+1) I' (by rw [ed];exact True.intro) hs he (gP (H':=upd (upd H d (.dK (aA [] (kvs.take i)))) d (.dK (putK (aA [] (kvs.take i)) kv.1 kv.2))) hl2 hdm (rel.put kv.1 rw2) dd')
  rw [kE,e2] at I2
  have hc:((i:Int)+1)=((i+1:Nat):Int):=by push_cast;rfl
  rw [hc]
  refine wpAny_pure ⟨plainId_quiet aG _,ih (i+1) _ (by omega) (by omega) ?_ ?_ I2⟩
  ·show lo≤h2.objs.size
   have:h2.objs.size=h'.objs.size:=hs.1
   rw [this,sz]
   exact Nat.le_succ_of_le hsl
  ·exact st'.but hdn hdl fun a o na e=>hs.extBut _ _ na e
end
end L2
namespace L2
open PySem PySem.Spec PyProof.Rows Sb
section
variable {X:Cx}
theorem nG {a a':Expr} {ta:TA} {p pos p2 pos2:Pos} (hc:X.calm=true) (hg1:Gl X "dict") (hm1:X.mg "dict"=none) (hv:bootBuiltins "dict"=some (.type "dict")) (hg:Gl X "zip") (hm:X.mg "zip"=none) (ha:PA X [a,a'] ta)
  (hs:starEach [a,a'] X.env=[(false,eval a X.env),(false,eval a' X.env)]) (hs2:starEach [a'] X.env=[(false,eval a' X.env)]):
  PE X (.Call (.Name "dict" p) [.Call (.Name "zip" p2) [a,a'] [] pos2] [] pos) (fun σ H Q=>ta σ H fun vs H1=>∃l m b c xs ys kvs,vs=[.ref l,.ref m]∧SqB b X.K H1 l xs∧SqB c X.K H1 m ys∧Side xs ys kvs∧kvs.length≤1000000∧∀q,H1 q=none→Q (.ref q) (upd H1 q (.dK (aA [] kvs)))):=by
 intro pins s σ H Q I h
 refine wpAny_Call_Name_kw (c8 I hg1 hm1 hv ?_)
 refine PyProof.Rows.callWith_type1 ?_ rfl rfl
 show wpAny _ _ (spliced ((false,eval (.Call (.Name "zip" p2) [a,a'] [] pos2) X.env)::backTo pos (starEach [] X.env))) _ _ s
 refine Calls.spliced_cons ?_
 refine wpAny_Call_Name_kw (c8 I hg hm Sb.boot_zip (PyProof.Rows.callWith_type1 (thn (ha pos2 pins s σ H _ I h) fun us s1 ⟨vs,H1,I1,r1,q1⟩=>?_) (by rw [hs,hs2]) (by rw [hs2];rfl)))
 obtain ⟨l,m,b,c,xs,ys,kvs,e,hq,hq',hr,hk,q⟩:=q1
 subst e
 obtain ⟨u,v,rfl,ru,rv'⟩:=Vals.two r1
 obtain rfl:u=Value.ref l:=ru
 obtain rfl:v=Value.ref m:=rv'
 obtain ⟨its,rv,hO⟩:=hq.of I1
 obtain ⟨its',rv',hO'⟩:=hq'.of I1
 refine l9 hO hO' fun h' a1 a2 a3 a4 a5 a6 a7=>?_
 have I2:L2.Inv X pins σ H1 {s1 with heap:=h'}:=I1.kept (t':=s1.toks) a7
 have hf1:∀d,s1.heap.objs.size≤d→dg X pins H1 d:=fun d hd=>I1.lG hd (I1.hok.fresh hd)
 have ll:l < s1.heap.objs.size:=by obtain ⟨o,n,e,_⟩:=hO.data;exact Heap.lt_size e
 have lm:m < s1.heap.objs.size:=by obtain ⟨o,n,e,_⟩:=hO'.data;exact Heap.lt_size e
 have D:Zp (s1.heap.objs.size+4) (s1.heap.objs.size+2) (s1.heap.objs.size+3) s1.heap.objs.size (s1.heap.objs.size+1) l m:=t9 _ _ _ ll lm
 have hA:X.A.handled=none:=I.ok.hd hc
 refine Calls.spliced_nil ?_
 generalize hn:s1.heap.objs.size=N at*
 refine callType_codes (Q₁:=fun obj s₁=>obj=.ref h'.objs.size∧s₁={s1 with heap:=h'.push {cls:=.type "dict",data:=.dict #[]}}) F.kt_called_dict (F.kt_typeCall_dict_1 _) F.entry_dict_init (kt_code_dict_new _ ⟨rfl,rfl⟩) ?_
 rintro obj s₁ ⟨rfl,rfl⟩
 have hd:H1 h'.objs.size=none:=I2.fresh
 have hnew:(h'.push {cls:=.type "dict",data:=.dict #[]}).DictOf (aW X.prog X.w) h'.objs.size []:=Heap.DictOf.new h'
 have I3:Inv X pins σ (upd H1 h'.objs.size (.dK [])) {s1 with heap:=h'.push {cls:=.type "dict",data:=.dict #[]}}:=I2.laid (t':=s1.toks) (fun _ _ q=>Heap.get?_push_of_some _ q) (Nat.le_refl _) (fe h' I2.big)
 refine ⟨hnew.typeIs,F.args_dict_init_2 _ _,?_⟩
 unfold Builtin.«dict.__init__»
 refine wpAny_bind ?_
 unfold Builtin.Dict.selfAndRest
 refine wpAny_bind (wpAny_notOrdered_dict hnew.typeIs ?_)
 show wpAny _ _ (pure (h'.objs.size,[Value.ref (N+4)])) _ _ _
 refine wpAny_pure ?_
 show wpAny _ _ (Builtin.Dict.updateFrom "dict.__init__" h'.objs.size (.ref (N+4)) [] .none) _ _ _
 unfold Builtin.Dict.updateFrom
 have b1:IsZip (h'.push {cls:=.type "dict",data:=.dict #[]}) (N+4) (N+2) (N+3) .none:=Heap.get?_push_of_some _ a1
 refine wpAny_bind (wpAny_typeOf (T:="zip") ⟨_,b1,rfl⟩ ?_)
 rw [if_pos (by decide)]
 refine wpAny_bind (tw b1 (by exact hA) fun h2 tk keep=>?_)
 have I4:=I3.kept (t':=tk) keep
 have up2:∀a o,h'.get? a=some o→h2.get? a=some o:=fun a o e=>keep a o (Heap.get?_push_of_some _ e)
 simp only [Option.isNone_none,if_true]
 refine wpAny_bind (wpAny_rule (wpAny_bind (wpAny_pyIter_zip (f0:=.none) (up2 _ _ a1) ?_)))
 have hszd:h'.objs.size < h2.objs.size:=by obtain ⟨o,_,_,e,_⟩:=hnew;exact Heap.lt_size (keep _ _ e)
 refine wpAny_pure ⟨plainId_quiet aG _,?_⟩
 refine n6 (X:=X) (σ:=σ) (H:=H1) (kvs:=kvs) (lo:=h2.objs.size) (by exact hA) D hq hq' hr hk hd ⟨?_,?_,?_,?_⟩ hszd (fun t ht=>?_) (fun t ht=>?_) (fun s' I'=>⟨rfl,⟨.ref _,_,I',rfl,q _ hd⟩⟩) kvs.length 0 _ (by omega) (Nat.zero_le _) (Nat.le_refl _) ⟨.inl (up2 _ _ a1),up2 _ _ a2,⟨_,_,up2 _ _ a3⟩,a4.up fun o e=>up2 _ o e,a5.up fun o e=>up2 _ o e⟩ I4
 ·exact Nat.lt_of_lt_of_le (Heap.lt_size a1) (Nat.le_of_lt hszd)
 ·exact Nat.lt_of_lt_of_le (Heap.lt_size a3) (Nat.le_of_lt hszd)
 ·exact Nat.lt_of_lt_of_le a4.lt (Nat.le_of_lt hszd)
 ·exact Nat.lt_of_lt_of_le a5.lt (Nat.le_of_lt hszd)
 ·simp at ht
  rw [a6]
  rcases ht with rfl | rfl | rfl | rfl | rfl <;> (refine Nat.ne_of_lt ?_;omega)
 ·refine hf1 t ?_
  simp at ht
  rcases ht with rfl | rfl | rfl | rfl <;> omega
end
end L2
namespace Sm
open PySem L2 PySem.Spec PyProof.Rows Sb
section
variable {X:Cx}
def jX:List D→List D→Option (List (Key×D))
 | x::r,y::s=>(iY x).bind fun k=>(jX r s).map fun ps=>(k,y)::ps
 | _,_=>some []
def nZ (m:AM):EM:=fun δ h=>(m δ h).bind fun p=>match p.1 with
 | [d,e]=>(bY d p.2).bind fun xs=>(bY e p.2).bind fun ys=>(jX xs.1 ys.1).bind fun ps=>if ps.length≤1000000 then some (.dv (d9 [] ps),p.2) else none
 | _=>none
theorem oF {K:PySem.W.Frag} {ρ:Ad} {H:Hp}:∀{vs:List V} {xs:List D} {us:List V} {ys:List D} {ps:List (Key×D)},RepL K ρ H vs xs→RepL K ρ H us ys→jX xs ys=some ps→∃kvs,Side vs us kvs∧RepK K ρ H kvs ps
 | _,_,_,_,_,.nil,_,e=>by cases e;exact ⟨[],⟨by simp,fun i kv z=>by simp at z⟩,.nil⟩
 | _,_,_,_,_,.cons _ _,.nil,e=>by cases e;exact ⟨[],⟨by simp,fun i kv z=>by simp at z⟩,.nil⟩
 | v::vs,_,u::us,_,_,.cons rx lx,.cons ry ly,e=>by
  obtain ⟨ky,e1,e2⟩:=bnd e
  obtain ⟨q,e3,e4⟩:=mpd e2
  subst e4
  obtain ⟨kvs,p1,p2⟩:=oF lx ly e3
  have ek:=fm rx e1
  subst ek
  refine ⟨(ky,u)::kvs,⟨by simp [p1.len,Nat.succ_min_succ],fun i kv z=>?_⟩,.cons ry p2⟩
  cases i with
  | zero=>cases z;exact ⟨rfl,rfl⟩
  | succ i=>exact p1.at_ i kv (by simpa using z)
theorem qh {a b:Expr} {m:AM} {p pos p2 pos2:Pos} (hc:X.calm=true) (hg1:Gl X "dict") (hm1:X.mg "dict"=none) (hv:bootBuiltins "dict"=some (.type "dict")) (hg:Gl X "zip") (hm:X.mg "zip"=none) (ha:SA X [a,b] m) (hl:gv m 2)
  (hs:starEach [a,b] X.env=[(false,eval a X.env),(false,eval b X.env)]:=by kernel_rfl) (hs2:starEach [b] X.env=[(false,eval b X.env)]:=by kernel_rfl):
  SE X (.Call (.Name "dict" p) [.Call (.Name "zip" p2) [a,b] [] pos2] [] pos) (nZ m):=(nG hc hg1 hm1 hv hg hm ha hs hs2).imp fun σ H Q ⟨ρ,δ,h,d0,h',R,S,e,k⟩=>by
 obtain ⟨⟨ds,h1⟩,e1,e2⟩:=bnd e
 refine ⟨ρ,δ,h,ds,h1,R,S,e1,fun vs ρ1 H1 T1 S1 r1=>?_⟩
 match ds,hl _ _ _ _ e1,e2,r1 with
 | [d,d'],_,e2,r1=>
  obtain ⟨⟨xs,w⟩,e3,e4⟩:=bnd e2
  obtain ⟨⟨ys,w'⟩,e5,e6⟩:=bnd e4
  obtain ⟨ps,e7,e8⟩:=bnd e6
  dsimp only at e7 e8
  by_cases c:ps.length≤1000000
  ·rw [if_pos c] at e8
   cases e8
   obtain ⟨v,v',rfl,rd,rd'⟩:=rep2 r1
   obtain ⟨a,rfl,⟨us,q,l⟩,st⟩:=dO S1 rd e3
   obtain ⟨a',rfl,⟨us',q',l'⟩,st'⟩:=dO S1 rd' e5
   obtain ⟨kvs,p1,p2⟩:=oF l l' e7
   exact ⟨a,a',iZ d,iZ d',us,us',kvs,rfl,q.sqB,q'.sqB,p1,by rw [p2.len];exact c,fun q hq=>k _ _ (cp.step T1 (.dv S1 (RepK.merge .nil p2) hq))⟩
  ·rw [if_neg c] at e8;cases e8
end
end Sm
namespace Sb
open PySem L2 PySem.Spec PyProof.Rows
theorem nN:typeLookup (.type "zip") "__len__"=pure none:=by rw [typeLookup_type,builtinLookup_eq_fast];kernel_rfl
theorem mP:typeLookup (.type "zip") "__length_hint__"=pure none:=by rw [typeLookup_type,builtinLookup_eq_fast];kernel_rfl
variable {P:Program} {w:World} {A:Around} {E:Value→Shared→Prop} {s:Shared} {b c:Bool}
theorem pZ {z:Addr} (hT:s.TypeIs (.ref z) "zip") {Q:Bool→Shared→Prop} (h:Q true s):wpAny (model P w) A (Builtin.List.listLengthHint (.ref z)) Q E s:=by
 unfold Builtin.List.listLengthHint
 refine wpAny_bind (wpAny_specialOf hT nN ?_)
 dsimp only
 refine wpAny_ite_split (fun hab=>absurd hab (by decide)) (fun _=>?_)
 refine wpAny_ite_split (fun hab=>absurd hab (by decide)) (fun _=>?_)
 refine wpAny_bind (wpAny_specialOf hT mP ?_)
 exact wpAny_pure h
structure Zg (xs ys:Array Value) (lo:Addr) (h:Heap) (as:List Addr):Prop where
 rise:as.Pairwise (· < ·)
 above:∀a∈as,lo≤a
 pairs:∀(j:Nat) (a:Addr),as[j]?=some a→∃x y,xs[j]?=some x∧ys[j]?=some y∧h.get? a=some {cls:=.type "tuple",data:=.seq #[x,y]}
theorem Of.but {l:Addr} {xs:Array Value} {h h':Heap} (x:Of b h l xs) (k:∀o,h.get? l=some o→h'.get? l=some o):Of b h' l xs:=x.up k
theorem rN {S z T U p q l m:Addr} {lo:Nat} {xs ys:Array Value} {n:Nat} {R:Result→Shared→Prop} (hh:A.handled=none) (D:Zp z T U p q l m) (hlo:z < lo∧U < lo∧p < lo∧q < lo) (hSl:S < lo) (hSn:∀t∈[z,T,U,p,q],t≠S) (hlS:l≠S) (hmS:m≠S)
  (hnn:n=min xs.size ys.size) (hn:n≤1000000) (res:Value) {h₁:Heap} (hl1:Of b h₁ l xs) (hm1:Of c h₁ m ys)
  (hR:∀h' tk acc cc as,(∀a o,a≠S→a≠z→a≠U→a≠p→a≠q→h₁.get? a=some o→h'.get? a=some o)→h'.get? S=some {cls:=.type "list",dict:=none,data:=.seq acc cc,slots:=#[]}→as.length=n→Zg xs ys lo h' as→
   acc.toList=as.map Value.ref→R (.ok (.ret res)) {s with heap:=h',toks:=tk}):
  ∀(k i:Nat) (h:Heap) (tk cc:Nat) (acc:Array Value) (as:List Addr),n-i=k→i≤n→lo≤h.objs.size→Zst b c lo z T U p q l m i h→(∀a o,a≠S→a≠z→a≠U→a≠p→a≠q→h₁.get? a=some o→h.get? a=some o)→
   h.get? S=some {cls:=.type "list",dict:=none,data:=.seq acc cc,slots:=#[]}→acc.toList=as.map Value.ref→as.length=i→Zg xs ys lo h as→
   codeAny (model P w) A (.builtin "list.extend.loop" ⟨[.ref S,.ref z,res],[]⟩) R {s with heap:=h,toks:=tk}:=by
 have hsz0:sizeLine≥1000001:=by decide
 intro k
 induction k with
 | zero=>
  intro i h tk cc acc as hk hi hsl hst hkeep hS hacc hal hG
  have hin:i=n:=by omega
  refine codeAny_builtin PySem.F.entry_extend_loop ?_
  rw [Around.under_plainId PySem.F.plain_extend_loop _]
  show wpAny _ A.in1 (pyNext (.ref z) >>=_) _ _ _
  refine wpAny_bind (Zst.done (s:={s with heap:=h,toks:=tk}) (A:=A.in1) hh D hst (hl1.but fun o e=>hkeep l o hlS D.lz D.lU D.lp D.lq e) (hm1.but fun o e=>hkeep m o hmS D.mz D.mU D.mp D.mq e) ?_ fun h' up=>?_)
  ·rcases Nat.le_total xs.size ys.size with y | y
   ·left;simp;omega
   ·right;simp;omega
  refine wpAny_pure (hR h' tk acc cc as (fun a o h0 h1 h2 h3 h4 e=>up a o h1 h2 h3 h4 (hkeep a o h0 h1 h2 h3 h4 e)) (up S _ (Ne.symm (hSn z (by simp))) (Ne.symm (hSn U (by simp))) (Ne.symm (hSn p (by simp))) (Ne.symm (hSn q (by simp))) hS) (by omega) ⟨hG.rise,hG.above,fun j a hj=>?_⟩ hacc)
  obtain ⟨x,y,e1,e2,e3⟩:=hG.pairs j a hj
  have hal:=hG.above a (List.mem_of_getElem? hj)
  exact ⟨x,y,e1,e2,up a _ (dm hal hlo.1) (dm hal hlo.2.1) (dm hal hlo.2.2.1) (dm hal hlo.2.2.2) e3⟩
 | succ k ih=>
  intro i h tk cc acc as hk hi hsl hst hkeep hS hacc hal hG
  have hlt:i < n:=by omega
  have hix:i < xs.size:=by omega
  have hiy:i < ys.size:=by omega
  have hsz:acc.size=i:=by rw [←Array.length_toList,hacc,List.length_map,hal]
  refine codeAny_builtin PySem.F.entry_extend_loop ?_
  rw [Around.under_plainId PySem.F.plain_extend_loop _]
  show wpAny _ A.in1 (pyNext (.ref z) >>=_) _ _ _
  refine wpAny_bind (Zst.next (s:={s with heap:=h,toks:=tk}) (A:=A.in1) D hst hlo hsl (hl1.but fun o e=>hkeep l o hlS D.lz D.lU D.lp D.lq e) (hm1.but fun o e=>hkeep m o hmS D.mz D.mU D.mp D.mq e) (Array.getElem?_eq_getElem hix) (Array.getElem?_eq_getElem hiy) fun h' hst' ht hz up0=>?_)
  dsimp only at ht hz up0 ⊢
  have hS':=up0 S _ (Ne.symm (hSn z (by simp))) (Ne.symm (hSn U (by simp))) (Ne.symm (hSn p (by simp))) (Ne.symm (hSn q (by simp))) hS
  have up:∀a o,a≠S→h'.get? a=some o→(h'.update S (Obj.mapSeq (·.push (Value.ref h.objs.size)))).get? a=some o:=fun a o hb e=>(Heap.get?_update_other _ _ (Ne.symm hb)).trans e
  have hne:h.objs.size≠S:=dm hsl hSl
  show wpAny _ A.in1 (updateSeq S (·.push (Value.ref h.objs.size)) >>=_) _ _ _
  refine wpAny_bind ?_
  refine wpAny_updateSeq hS' rfl (wpAny_pure ⟨plainId_quiet PySem.F.plain_extend_loop _,ih (i+1) _ tk _ (acc.push (Value.ref h.objs.size)) (as++[h.objs.size]) (by omega) hlt ?_ (hst'.but hSn hSl fun a o na e=>up a o na e)
   (fun a o h0 h1 h2 h3 h4 e=>up a o h0 (up0 a o h1 h2 h3 h4 (hkeep a o h0 h1 h2 h3 h4 e))) (Heap.get?_update_self _ hS' rfl) (by rw [Array.toList_push,hacc,List.map_append];rfl) (by rw [List.length_append,hal];rfl) ⟨?_,?_,?_⟩⟩) (by rw [hsz];omega) (by show (acc.push (Value.ref h.objs.size)).size≤sizeLine+1;rw [Array.size_push,hsz];omega)
  ·rw [Heap.size_update,hz];exact Nat.le_succ_of_le hsl
  ·refine List.pairwise_append.mpr ⟨hG.rise,List.pairwise_singleton _ _,fun a ha b hb=>?_⟩
   rw [List.mem_singleton.mp hb]
   obtain ⟨j,hj⟩:=List.mem_iff_getElem?.mp ha
   obtain ⟨_,_,_,_,e⟩:=hG.pairs j a hj
   exact Heap.lt_size e
  ·intro a ha
   rcases List.mem_append.mp ha with ha | ha
   ·exact hG.above a ha
   ·rw [List.mem_singleton.mp ha];exact hsl
  ·intro j a hj
   rcases Nat.lt_trichotomy j as.length with h1 | h1 | h1
   ·rw [List.getElem?_append_left h1] at hj
    obtain ⟨x',y',e1,e2,e3⟩:=hG.pairs j a hj
    have hb:=hG.above a (List.mem_of_getElem? hj)
    exact ⟨x',y',e1,e2,up a _ (dm hb hSl) (up0 a _ (dm hb hlo.1) (dm hb hlo.2.1) (dm hb hlo.2.2.1) (dm hb hlo.2.2.2) e3)⟩
   ·subst h1
    have hb:h.objs.size=a:=by simpa using hj
    subst hb
    exact ⟨_,_,by rw [hal];exact Array.getElem?_eq_getElem hix,by rw [hal];exact Array.getElem?_eq_getElem hiy,up _ _ hne ht⟩
   ·have hnone:(as++[h.objs.size])[j]?=none:=List.getElem?_eq_none (by rw [List.length_append,List.length_singleton];omega)
    rw [hnone] at hj;cases hj
end Sb
namespace Sb
open PySem L2 PySem.Spec PyProof.Rows
variable {P:Program} {w:World} {A:Around} {E:Value→Shared→Prop} {s:Shared} {b c:Bool}
theorem rO {z T U p q l m:Addr} {xs ys:Array Value} {n:Nat} {Q:Value→Shared→Prop} (hh:A.handled=none) (D:Zp z T U p q l m) (hz:IsZip s.heap z T U .none) (hT:IsPair s.heap T (.ref p) (.ref q)) (hU:IsPair s.heap U .none .none) (h1:At b s.heap p l 0) (h2:At c s.heap q m 0)
  (hl:Of b s.heap l xs) (hm:Of c s.heap m ys) (hll:l < s.heap.objs.size) (hml:m < s.heap.objs.size) (hnn:n=min xs.size ys.size) (hn:n≤1000000)
  (hQ:∀h' tk acc cc as,(∀a o,a≠z→a≠U→a≠p→a≠q→s.heap.get? a=some o→h'.get? a=some o)→h'.get? s.heap.objs.size=some {cls:=.type "list",dict:=none,data:=.seq acc cc,slots:=#[]}→as.length=n→Zg xs ys (s.heap.objs.size+1) h' as→
   acc.toList=as.map Value.ref→Q (.ref s.heap.objs.size) {s with heap:=h',toks:=tk}):
  wpAny (model P w) A (call (.type "list") [.ref z]) Q E s:=by
 refine callType_codes (Q₁:=fun obj s₁=>obj=.ref s.heap.objs.size∧s₁={s with heap:=s.heap.push {cls:=.type "list",data:=.seq #[]}}) PySem.F.called_list (PySem.F.typeCall_list_1 _) PySem.F.entry_list_init
  (code_list_new _ ⟨rfl,rfl⟩) fun obj s₁ h₁=>?_
 obtain ⟨rfl,rfl⟩:=h₁
 have hS:(s.heap.push {cls:=.type "list",data:=.seq #[]}).get? s.heap.objs.size=some {cls:=.type "list",data:=.seq #[]}:=Heap.get?_push_size _ rfl
 have zl:=Heap.lt_size hz
 have Tl:=Heap.lt_size hT
 have Ul:=Heap.lt_size hU
 have pl:=h1.lt
 have ql:=h2.lt
 refine ⟨⟨_,hS,rfl⟩,PySem.F.args_list_init_2 _ _,?_⟩
 show wpAny _ _ (do let old←Builtin.List.listItems (.ref s.heap.objs.size);Builtin.List.listUpdate (.ref s.heap.objs.size) (fun _=>#[]);letGo old.toList.reverse;Builtin.List.listExtendWith (.ref s.heap.objs.size) (.ref z) .none) _ _ _
 refine wpAny_bind ?_
 unfold Builtin.List.listItems
 refine wpAny_bind (wpAny_seqItems hS rfl (wpAny_pure ?_))
 show wpAny _ _ (updateSeq s.heap.objs.size (fun _=>#[]) >>=fun _=>letGo (#[]:Array Value).toList.reverse >>=fun _=>Builtin.List.listExtendWith (.ref s.heap.objs.size) (.ref z) .none) _ _ _
 refine wpAny_bind (wpAny_updateSeq hS rfl ?_)
 have hS₂:=Heap.get?_update_self (Obj.mapSeq (fun _=>(#[]:Array Value))) hS rfl
 have oth:∀a o,s.heap.get? a=some o→((s.heap.push {cls:=.type "list",data:=.seq #[]}).update s.heap.objs.size (Obj.mapSeq (fun _=>(#[]:Array Value)))).get? a=some o:=
  fun a o e=>(Heap.get?_update_other _ _ (Nat.ne_of_gt (Heap.lt_size e))).trans (Heap.get?_push_of_some _ e)
 have sz2:((s.heap.push {cls:=.type "list",data:=.seq #[]}).update s.heap.objs.size (Obj.mapSeq (fun _=>(#[]:Array Value)))).objs.size=s.heap.objs.size+1:=by rw [Heap.size_update,Heap.size_push]
 refine wpAny_bind (wpAny_letGo ?_)
 generalize (s.heap.push {cls:=.type "list",data:=.seq #[]}).update s.heap.objs.size (Obj.mapSeq (fun _=>(#[]:Array Value)))=g2 at hS₂ oth sz2 ⊢
 have hSn:∀t∈[z,T,U,p,q],t≠s.heap.objs.size:=fun t ht=>by
  simp at ht
  rcases ht with rfl | rfl | rfl | rfl | rfl
  ·exact Nat.ne_of_lt zl
  ·exact Nat.ne_of_lt Tl
  ·exact Nat.ne_of_lt Ul
  ·exact Nat.ne_of_lt pl
  ·exact Nat.ne_of_lt ql
 have key:∀(h:Heap) (c₁ tk:Nat),(∀a o,a≠s.heap.objs.size→g2.get? a=some o→h.get? a=some o)→h.objs.size=s.heap.objs.size+1→h.get? s.heap.objs.size=some {cls:=.type "list",data:=.seq #[] c₁}→
   codeAny (model P w) A.in1 (.builtin "list.extend.loop" ⟨[.ref s.heap.objs.size,.ref z,.none],[]⟩) (wants (fun r s₂=>r=.none∧Q (.ref s.heap.objs.size) s₂) E) {s with heap:=h,toks:=tk}:=by
  intro h c₁ tk hk hsz hS₁
  have up:∀a o,s.heap.get? a=some o→h.get? a=some o:=fun a o e=>hk a o (Nat.ne_of_lt (Heap.lt_size e)) (oth a o e)
  refine rN (s:=s) (h₁:=s.heap) (lo:=s.heap.objs.size+1) (n:=n) (by exact hh) D ⟨Nat.lt_succ_of_lt zl,Nat.lt_succ_of_lt Ul,Nat.lt_succ_of_lt pl,Nat.lt_succ_of_lt ql⟩ (Nat.lt_succ_self _) hSn (Nat.ne_of_lt hll) (Nat.ne_of_lt hml) hnn hn .none hl hm
   (fun h' tk' acc cc as hk' hS' hla hG hacc=>⟨rfl,hQ h' tk' acc cc as (fun a o n1 n2 n3 n4 e=>hk' a o (Nat.ne_of_lt (Heap.lt_size e)) n1 n2 n3 n4 e) hS' hla hG hacc⟩)
   n 0 h tk c₁ #[] [] (Nat.sub_zero _) (Nat.zero_le _) (by rw [hsz];exact Nat.le_refl _) ⟨.inl (up _ _ hz),up _ _ hT,⟨_,_,up _ _ hU⟩,h1.up fun o e=>up _ o e,h2.up fun o e=>up _ o e⟩ (fun a o _ _ _ _ _ e=>up a o e) hS₁ rfl rfl ⟨List.Pairwise.nil,(fun _ ha=>nomatch ha),(fun j a hj=>by simp at hj)⟩
 unfold Builtin.List.listExtendWith
 have hz2:=oth _ _ hz
 refine wpAny_bind (wpAny_typeOf (T:="zip") ⟨_,hz2,rfl⟩ ?_)
 have h1':Builtin.List.listSameRef (.ref s.heap.objs.size) (.ref z)=false:=by simp [Builtin.List.listSameRef,Nat.ne_of_gt zl]
 have h2':(Value.type "zip"==Value.type "list")=false:=by decide
 have h3':(Value.type "zip"==Value.type "tuple")=false:=by decide
 simp only [h1',h2',h3',Bool.or_false,Bool.false_eq_true,if_false]
 refine wpAny_bind (wpAny_pyIter_zip (f0:=.none) hz2 ?_)
 refine wpAny_bind (wpAny_holding (pZ ⟨_,hz2,rfl⟩ ?_))
 refine wpAny_ite_split (fun _=>?_) (fun _=>wpAny_pure ⟨plainId_quiet PySem.F.plain_extend_loop _,key _ _ _ (fun a o _ e=>e) sz2 hS₂⟩)
 refine wpAny_bind (wpAny_rule ?_)
 refine wpAny_bind ?_
 show wpAny _ _ (updateSeq s.heap.objs.size (·.push .none) >>=fun _=>updateSeq s.heap.objs.size (·.pop)) _ _ _
 refine wpAny_bind (wpAny_updateSeq hS₂ rfl ?_)
 have hS₃:=Heap.get?_update_self (Obj.mapSeq (·.push Value.none)) hS₂ rfl
 refine wpAny_updateSeq (hz:=by seq_fits) hS₃ rfl ?_
 have hS₄:=Heap.get?_update_self (Obj.mapSeq (·.pop)) hS₃ rfl
 refine wpAny_pure ⟨plainId_quiet PySem.F.plain_extend_loop _,key _ _ _ (fun a o hb e=>?_) (by rw [Heap.size_update,Heap.size_update,sz2]) hS₄⟩
 exact (Heap.get?_update_other _ _ (Ne.symm hb)).trans ((Heap.get?_update_other _ _ (Ne.symm hb)).trans e)
end Sb
namespace L2
open PySem PySem.Spec PyProof.Rows Sb
section
variable {X:Cx}
theorem Inv.nP {pins:List (Addr×Obj)} {σ:St} {H H':Hp} {s:Shared} {h':Heap} {t':Nat} {fp:List Addr} (I:Inv X pins σ H s) (k:∀b o,b∉fp→s.heap.get? b=some o→h'.get? b=some o) (hf:∀b∈fp,dg X pins H b)
  (ag:∀b,b < s.heap.objs.size→H' b=H b) (new:∀b o,H' b=some o→s.heap.objs.size≤b→bB X.prog X.w H' h' b o):Inv X pins σ H' {s with heap:=h',toks:=t'}:=by
 have nit:∀b u,H b=some u→b∉fp:=fun b u e z=>by rw [(hf b z).1] at e;cases e
 have tr:∀b o,H b=some o→H' b=some o:=fun b o e=>by rw [ag b (I.hok.lt e)];exact e
 refine I.step (g':=s.gens) (d':=s.drawn) (ch:=fp) (fun b hb=>?_) (fun b o _ _ hc e _=>k b o hc e) (fun b o _ _ hc e _=>⟨o.slots,k b o hc e⟩) (fun b o _ e n=>by rw [ag b (Heap.lt_size e)];exact n)
  (fun b o hc e=>⟨o,k b o hc e⟩) (fun b xs e=>tr b _ e) (fun b o u e=>tr b _ e) (fun b ps e=>⟨#[],by rw [tr b _ e];simp⟩) (fun m hm=>?_) (fun b u e=>?_) I.bare
 ·obtain ⟨_,h1,_,h3,h4,h5⟩:=hf b hb
  exact ⟨h3,h1,h4,h5⟩
 ·obtain ⟨o,es,ep,ho,r⟩:=hm
  exact ⟨o,es,ep,k _ o (fun z=>(hf _ z).2.1 rfl) ho,r⟩
 ·by_cases hb:b < s.heap.objs.size
  ·have e':H b=some u:=by rw [←ag b hb];exact e
   refine (I.hok b u e').jr (fun c v hc q=>k c v ?_ q) (fun c q=>tr c _ q) fun c xs q=>tr c _ q
   rcases hc with z | z
   ·rw [z];exact nit b u e'
   ·exact nit c _ z
  ·exact new b u e (Nat.le_of_not_lt hb)
theorem oz {xs:List V} {its:List Value} {j:Nat} {u:Value}:Vals xs its→its[j]?=some u→∃v,xs[j]?=some v∧RelV v u:=fun h e=>by
 have hj:j < xs.length:=by rw [h.length];exact (List.getElem?_eq_some_iff.mp e).1
 obtain ⟨u',e1,r⟩:=h.get (List.getElem?_eq_getElem hj)
 rw [e] at e1
 cases e1
 exact ⟨_,List.getElem?_eq_getElem hj,r⟩
theorem sU {a a':Expr} {ta:TA} {p pos p2 pos2:Pos} (hc:X.calm=true) (hg1:Gl X "list") (hm1:X.mg "list"=none) (hv:bootBuiltins "list"=some (.type "list")) (hg:Gl X "zip") (hm:X.mg "zip"=none) (ha:PA X [a,a'] ta)
  (hs:starEach [a,a'] X.env=[(false,eval a X.env),(false,eval a' X.env)]) (hs2:starEach [a'] X.env=[(false,eval a' X.env)]):
  PE X (.Call (.Name "list" p) [.Call (.Name "zip" p2) [a,a'] [] pos2] [] pos) (fun σ H Q=>ta σ H fun vs H1=>∃l m b c xs ys,vs=[.ref l,.ref m]∧SqB b X.K H1 l xs∧SqB c X.K H1 m ys∧min xs.length ys.length≤1000000∧
   ∀(bs:List Addr) (r:Addr),bs.length=min xs.length ys.length→bs.Nodup→r∉bs→(∀b∈bs,H1 b=none)→H1 r=none→Q (.ref r) (upd (g6 H1 bs ((xs.zip ys).map fun q=>[q.1,q.2])) r (.lst (bs.map V.ref)))):=by
 intro pins s σ H Q I h
 refine wpAny_Call_Name_kw (c8 I hg1 hm1 hv ?_)
 refine PyProof.Rows.callWith_type1 ?_ rfl rfl
 show wpAny _ _ (spliced ((false,eval (.Call (.Name "zip" p2) [a,a'] [] pos2) X.env)::backTo pos (starEach [] X.env))) _ _ s
 refine Calls.spliced_cons ?_
 refine wpAny_Call_Name_kw (c8 I hg hm Sb.boot_zip (PyProof.Rows.callWith_type1 (thn (ha pos2 pins s σ H _ I h) fun us s1 ⟨vs,H1,I1,r1,q1⟩=>?_) (by rw [hs,hs2]) (by rw [hs2];rfl)))
 obtain ⟨l,m,b,c,xs,ys,e,hq,hq',hk,q⟩:=q1
 subst e
 obtain ⟨u,v,rfl,ru,rv'⟩:=Vals.two r1
 obtain rfl:u=Value.ref l:=ru
 obtain rfl:v=Value.ref m:=rv'
 obtain ⟨its,rv,hO⟩:=hq.of I1
 obtain ⟨its',rv',hO'⟩:=hq'.of I1
 have e1:=rv.length
 have e2:=rv'.length
 refine l9 hO hO' fun h' a1 a2 a3 a4 a5 a6 a7=>?_
 have I2:L2.Inv X pins σ H1 {s1 with heap:=h'}:=I1.kept (t':=s1.toks) a7
 have hf1:∀d,s1.heap.objs.size≤d→dg X pins H1 d:=fun d hd=>I1.lG hd (I1.hok.fresh hd)
 have ll:l < s1.heap.objs.size:=by obtain ⟨o,n,e,_⟩:=hO.data;exact Heap.lt_size e
 have lm:m < s1.heap.objs.size:=by obtain ⟨o,n,e,_⟩:=hO'.data;exact Heap.lt_size e
 have D:Zp (s1.heap.objs.size+4) (s1.heap.objs.size+2) (s1.heap.objs.size+3) s1.heap.objs.size (s1.heap.objs.size+1) l m:=t9 _ _ _ ll lm
 have hA:X.A.handled=none:=I.ok.hd hc
 refine Calls.spliced_nil ?_
 generalize hn:s1.heap.objs.size=N at*
 refine rO (n:=min xs.length ys.length) hA D a1 a2 a3 a4 a5 (hO.up fun o e=>a7 _ o e) (hO'.up fun o e=>a7 _ o e) (Nat.lt_of_lt_of_le ll (by show N≤h'.objs.size;rw [a6];exact Nat.le_add_right _ _)) (Nat.lt_of_lt_of_le lm (by show N≤h'.objs.size;rw [a6];exact Nat.le_add_right _ _)) (by simp;omega) hk fun h2 tk acc cc as hk2 hS2 hal hG hacc=>?_
 dsimp only at hk2 hS2 hG ⊢
 have hL:H1 h'.objs.size=none:=I2.hok.fresh (Nat.le_refl _)
 have hab:∀b∈as,h'.objs.size < b:=fun b hb=>hG.above b hb
 have hnd:as.Nodup:=hG.rise.imp fun h=>Nat.ne_of_lt h
 have hLn:h'.objs.size∉as:=fun y=>Nat.lt_irrefl _ (hab _ y)
 have hlen:as.length=((xs.zip ys).map fun q=>[q.1,q.2]).length:=by rw [List.length_map,List.length_zip,hal]
 refine ⟨.ref h'.objs.size,upd (g6 H1 as ((xs.zip ys).map fun q=>[q.1,q.2])) h'.objs.size (.lst (as.map V.ref)),?_,rfl,q as _ hal hnd hLn (fun b hb=>I2.hok.fresh (Nat.le_of_lt (hab b hb))) hL⟩
 refine Inv.nP (s:={s1 with heap:=h'}) (t':=tk) I2 (fp:=[N+4,N+3,N,N+1]) (fun b o hb e=>hk2 b o (fun y=>hb (by simp [y])) (fun y=>hb (by simp [y])) (fun y=>hb (by simp [y])) (fun y=>hb (by simp [y])) e) (fun b hb=>hf1 b (by simp at hb;rcases hb with rfl | rfl | rfl | rfl <;> omega)) (fun b hb=>?_) fun b u e hb=>?_
 ·rw [av (Nat.ne_of_lt hb),eG fun y=>Nat.lt_irrefl _ (Nat.lt_trans hb (hab b y))]
 ·by_cases hbL:b=h'.objs.size
  ·subst hbL
   rw [aN] at e
   cases e
   refine ⟨by rw [List.length_map,hal,sizeLine_eq];omega,acc.toList,cc,?_,by rw [hS2]⟩
   rw [hacc]
   exact jP as
  ·rw [av hbL] at e
   by_cases hba:b∈as
   ·obtain ⟨j,t,e5,e6,rfl⟩:=oA hlen e hba
    obtain ⟨x,y,e7,e8,e9⟩:=hG.pairs j b e5
    rw [List.getElem?_map] at e6
    obtain ⟨xy,e10,rfl⟩:=Option.map_eq_some_iff.mp e6
    rw [List.getElem?_zip_eq_some] at e10
    obtain ⟨x',ex,rx⟩:=oz rv (by simpa using e7)
    obtain ⟨y',ey,ry⟩:=oz rv' (by simpa using e8)
    rw [ex] at e10
    rw [ey] at e10
    obtain ⟨f1,f2⟩:=e10
    cases f1
    have f2:y'=xy.2:=Option.some.inj f2
    subst f2
    exact ⟨by show 2≤sizeLine;rw [sizeLine_eq];omega,[x,y],.cons rx (.cons ry .nil),_,e9,rfl,⟨_,rfl⟩,rfl⟩
   ·rw [eG hba] at e
    exact absurd (I2.hok.lt e) (Nat.not_lt.mpr hb)
end
end L2
namespace Sm
open PySem L2 PySem.Spec PyProof.Rows Sb
section
variable {X:Cx}
def wA (m:AM):AM:=fun δ h=>(m δ h).bind fun p=>match p.1 with
 | [d,e]=>(bY d p.2).bind fun xs=>(bY e p.2).bind fun ys=>if min xs.1.length ys.1.length≤1000000 then some (fQ xs.1 ys.1,p.2) else none
 | _=>none
theorem xj {K:PySem.W.Frag} {ρ:Ad} {h:MH}:∀{us vs:List V} {xs ys:List D} {bs:List Addr} {H:Hp},Sim K ρ h H→RepL K ρ H us xs→RepL K ρ H vs ys→bs.length=min us.length vs.length→bs.Nodup→(∀b∈bs,H b=none)→
  ∃ρ',Stp ρ H ρ' (g6 H bs ((us.zip vs).map fun q=>[q.1,q.2]))∧Sim K ρ' h (g6 H bs ((us.zip vs).map fun q=>[q.1,q.2]))∧RepL K ρ' (g6 H bs ((us.zip vs).map fun q=>[q.1,q.2])) (bs.map V.ref) (fQ xs ys)
 | [],_,_,_,[],H,S,.nil,_,_,_,_=>⟨ρ,Stp.refl _ _,S,by simp [fQ];exact .nil⟩
 | _::_,[],_,_,[],H,S,.cons _ _,.nil,_,_,_=>⟨ρ,Stp.refl _ _,S,by simp [fQ];exact .nil⟩
 | u::us,v::vs,x::xs,y::ys,b::bs,H,S,.cons ru lu,.cons rv lv,hl,nd,hf=>by
  rw [List.nodup_cons] at nd
  obtain ⟨ρ1,T1,S1,l1⟩:=xj S lu lv (by simp at hl;omega) nd.2 fun c hc=>hf c (List.mem_cons_of_mem _ hc)
  have hb:g6 H bs ((us.zip vs).map fun q=>[q.1,q.2]) b=none:=by rw [eG nd.1];exact hf b List.mem_cons_self
  obtain ⟨ρ2,T2,S2,r2⟩:=cp.tup S1 (.cons (ru.mono T1.toCh) (.cons (rv.mono T1.toCh) .nil)) hb
  exact ⟨ρ2,T1.trans T2,S2,.cons r2 (l1.mono T2.toCh)⟩
 | [],_,_,_,b::bs,_,_,.nil,_,hl,_,_=>by simp at hl
 | _::_,[],_,_,b::bs,_,_,.cons _ _,.nil,hl,_,_=>by simp at hl
 | _::_,_::_,_,_,[],_,_,.cons _ _,.cons _ _,hl,_,_=>by simp at hl
theorem sf {a b:Expr} {m:AM} {p pos p2 pos2:Pos} (hc:X.calm=true) (hg1:Gl X "list") (hm1:X.mg "list"=none) (hv:bootBuiltins "list"=some (.type "list")) (hg:Gl X "zip") (hm:X.mg "zip"=none) (ha:SA X [a,b] m) (hl:gv m 2)
  (hs:starEach [a,b] X.env=[(false,eval a X.env),(false,eval b X.env)]:=by kernel_rfl) (hs2:starEach [b] X.env=[(false,eval b X.env)]:=by kernel_rfl):
  SFL X (.Call (.Name "list" p) [.Call (.Name "zip" p2) [a,b] [] pos2] [] pos) (wA m):=(sU hc hg1 hm1 hv hg hm ha hs hs2).imp fun σ H Q ⟨ρ,δ,h,ds0,h',R,S,e,k⟩=>by
 obtain ⟨⟨ds,h1⟩,e1,e2⟩:=bnd e
 refine ⟨ρ,δ,h,ds,h1,R,S,e1,fun vs ρ1 H1 T1 S1 r1=>?_⟩
 match ds,hl _ _ _ _ e1,e2,r1 with
 | [d,d'],_,e2,r1=>
  obtain ⟨⟨xs,w⟩,e3,e4⟩:=bnd e2
  obtain ⟨⟨ys,w'⟩,e5,e6⟩:=bnd e4
  dsimp only at e6
  by_cases c:min xs.length ys.length≤1000000
  ·rw [if_pos c] at e6
   cases e6
   obtain ⟨v,v',rfl,rd,rd'⟩:=rep2 r1
   obtain ⟨a,rfl,⟨us,q,l⟩,st⟩:=dO S1 rd e3
   obtain ⟨a',rfl,⟨us',q',l'⟩,st'⟩:=dO S1 rd' e5
   refine ⟨a,a',iZ d,iZ d',us,us',rfl,q.sqB,q'.sqB,by rw [l.length,l'.length];exact c,fun bs r hbl nd hrn hf hrf=>?_⟩
   obtain ⟨ρ2,T2,S2,l2⟩:=xj S1 l l' hbl nd hf
   exact k ρ2 _ r _ (T1.trans T2) S2 (by rw [eG hrn];exact hrf) l2
  ·rw [if_neg c] at e6;cases e6
end
end Sm
namespace PySem
theorem eJ:typeLookup (.type "tuple") "__rmul__"=pure (some (.builtin "tuple.__rmul__")):=by rw [typeLookup_type,builtinLookup_eq_fast];kernel_rfl
theorem gK:fillsNumberSlot (.type "tuple") "mul"=pure false:=
 fillsNumberSlot_seq (id:="tuple.__mul__") (r:=some (.builtin "tuple.__rmul__")) F.slot_tuple_mul.lookup (by decide+kernel) eJ (by decide+kernel)
theorem kO:seqRepeat? (.type "tuple")=pure (some (.builtin "tuple.__mul__")):=by
 unfold seqRepeat?
 rw [seqSlot_of (T:="tuple") (name:="__mul__") (id:="tuple.__mul__") F.slot_tuple_mul.lookup (by decide+kernel),seqSlot_of (T:="tuple") (name:="__rmul__") (id:="tuple.__rmul__") eJ (by decide+kernel)]
 rfl
theorem er (a:Int) (t:Tok) (l:Addr) (o:Obj) (items:Array Value) (n:Nat) (hc:o.cls=.type "tuple") (hd:o.data=.seq items n):
  Meets (Builtin.«int.__rmul__» ⟨[.int a t,.ref l],[]⟩) (fun _ R s=>s.heap.get? l=some o∧R (.ok (.ret Value.notImplemented)) s):=
 .of_wp fun prog w A R s h=>by
  obtain ⟨c,dd,da,sl⟩:=o
  dsimp only at hc hd
  subst hc;subst hd
  obtain ⟨hp,g,d,tk,os⟩:=s;obtain ⟨hl,h⟩:=h;wp_walk;exact ⟨_,rfl,h⟩
end PySem
namespace L2
open PySem PySem.Spec PyProof.Rows
section
variable {X:Cx}
def xB (K:PySem.W.Frag):R2:=fun x y H Q=>∃l k xs,x=.ref l∧y=.int k∧SqT K H l xs∧-(2^62)≤k∧k < 2^62∧xs.length*k.toNat≤1000000∧
 ((xs.isEmpty||k==1)=true→Q (.ref l) H)∧((xs.isEmpty||k==1)=false→∀p,H p=none→Q (.ref p) (upd H p (.tup (List.replicate k.toNat xs).flatten)))
theorem nS (its:List Value) (m:Nat):List.foldl (fun x1 x2=>x1++x2) #[] (List.replicate m its.toArray)=(List.replicate m its).flatten.toArray:=by
 have:=foldl_rep its m []
 rw [List.nil_append] at this
 exact this
theorem tj:OpR X (binaryOp .Mult) (xB X.K):=by
 intro pins s σ H x y v u Q I rx ry h
 obtain ⟨l,k,xs,rfl,rfl,hH,h1,h2,hz,q1,q2⟩:=h
 cases rx
 obtain ⟨t,rfl⟩:=ry
 obtain ⟨its,rv,pt,hz2⟩:=I.tuple hH
 have hl:=rv.length
 obtain ⟨o,e1,e2,n,e3⟩:=id pt
 have hT:s.TypeIs (.ref l) "tuple":=⟨o,e1,e2⟩
 refine wpAny_binaryOp_repeat_ref (T:="tuple") (U:="int") (by decide) hT (fun s'=>typeIs_int s' k t) gK F.fills_int_mul F.slot_int_rmul kO F.slot_int_index.lookup
  (call_meets F.slot_int_rmul (typeIs_int s k t) F.entry_int_rmul (F.args_int_rmul_2 _ _) (er k t l o its.toArray n e2 e3)
   ⟨e1,rfl,hT,wpAny_call_entry F.slot_tuple_mul hT F.entry_tuple_mul ?_ (F.args_tuple_mul_2 _ _)⟩)
 show wpAny _ _ (asIndex (.int k t) >>=_) _ _ _
 refine wpAny_bind (wpAny_pure ?_)
 rw [if_neg (by simp;omega)]
 refine wpAny_bind (wpAny_tupleItemsOf e1 e3 ?_)
 have hem:its.toArray.isEmpty=xs.isEmpty:=by
  cases its with
  | nil=>cases xs with | nil=>rfl | cons _ _=>simp at hl
  | cons _ _=>cases xs with | nil=>simp at hl | cons _ _=>rfl
 rw [hem]
 by_cases c:(xs.isEmpty||k==1)=true
 ·rw [if_pos c]
  refine wpAny_bind ?_
  unfold Builtin.Tuple.tupleIsExact
  refine wpAny_bind (wpAny_typeOf hT (wpAny_pure ?_))
  rw [if_pos (by decide)]
  refine wpAny_bind (wpAny_rule (wpAny_pure ⟨_,rfl,?_⟩))
  exact ⟨.ref l,H,I,rfl,q1 c⟩
 ·rw [if_neg c]
  have c':(xs.isEmpty||k==1)=false:=by simpa using c
  have hne:xs.isEmpty=false:=by cases hx:xs.isEmpty <;> simp_all
  have fin:∀(w:List Value),Vals (List.replicate k.toNat xs).flatten w→(List.replicate k.toNat xs).flatten.length≤sizeLine→wpAny (model X.prog X.w) X.A.in1 (Builtin.Tuple.tupleExact w.toArray >>=fun v=>ret v) (fun fin s'=>∃v,fin=Fin.done (Flow.ret v)∧EP X pins σ Q v s') X.xe s:=fun w hw hlw=>by
   unfold Builtin.Tuple.tupleExact
   refine wpAny_bind (wpAny_newObj_type (wpAny_pure ⟨_,rfl,?_⟩) (by simp [sizeOk];rw [←hw.length];exact hlw))
   exact ⟨.ref _,_,I.laid (t':=s.toks) (o:=.tup (List.replicate k.toNat xs).flatten) (fun b o e=>Heap.get?_push_of_some _ e) (Nat.le_refl _) ⟨hlw,w,hw,jM.new _ _⟩,rfl,q2 c' _ I.fresh⟩
  by_cases c2:k≤0
  ·rw [if_pos (by simp [c2])]
   have h0:k.toNat=0:=by omega
   refine fin [] ?_ ?_
   ·rw [h0];exact .nil
   ·rw [h0];exact Nat.zero_le _
  ·rw [if_neg (by rw [decide_eq_false c2,hne];decide)]
   have hp:its.length*k.toNat≤1000000:=by rw [←hl];exact hz
   have hkk:((k.toNat:Nat):Int)=k:=Int.toNat_of_nonneg (by omega)
   have hpi:((its.toArray.size:Nat):Int)*k≤1000000:=by
    rw [←hkk,List.size_toArray]
    have h9:((its.length*k.toNat:Nat):Int)≤((1000000:Nat):Int):=Int.ofNat_le.mpr hp
    rw [Int.natCast_mul] at h9
    exact h9
   rw [if_neg (by omega)]
   rw [if_neg (by unfold Builtin.Tuple.tupleTooMany;simp only [decide_eq_true_eq,Int.not_lt];rw [sizeLine_eq];show _≤(16777216:Int);omega)]
   rw [nS]
   refine fin _ (rv.rep k.toNat) ?_
   rw [len_rep,Nat.mul_comm,sizeLine_eq]
   omega
end
end L2
namespace Sm
open PySem L2 PySem.Spec PyProof.Rows
section
variable {X:Cx}
def mV (d e:D) (h:MH):Option (D×MH):=match d,e with
 | .tup xs,.int n=>if -1000≤n∧n≤1000∧xs.length≤1000 then some (.tup (List.replicate n.toNat xs).flatten,h) else none
 | _,_=>none
theorem tf:OpS X (binaryOp .Mult) mV:=by
 intro pins s σ H x y v u Q I rx ry hh
 obtain ⟨ρ,h,d,e,z,h',S,rd,re,ee,k⟩:=hh
 cases rd <;> first | (cases ee;done) | skip
 cases re <;> first | (cases ee;done) | skip
 rename_i a vs ds ht la n
 by_cases c:-1000≤n∧n≤1000∧ds.length≤1000
 ·rw [show mV (.tup ds) (.int n) h=some (.tup (List.replicate n.toNat ds).flatten,h) by show (if _ then _ else _)=_;rw [if_pos c]] at ee
  cases ee
  have hb:ds.length*n.toNat≤1000*1000:=Nat.mul_le_mul c.2.2 (by omega)
  refine tj pins s σ H _ _ v u Q I rx ry ⟨a,n,vs,rfl,rfl,ht.sq,by omega,by omega,by rw [la.length];omega,fun hc=>?_,fun _ l hl=>k _ _ (.tup S (la.rep _) hl)⟩
  have:(List.replicate n.toNat ds).flatten=ds:=by
   rw [Bool.or_eq_true] at hc
   rcases hc with hc | hc
   ·have hv:vs=[]:=by cases vs with | nil=>rfl | cons _ _=>cases hc
    have hd:ds=[]:=by have:=la.length;rw [hv] at this;cases ds with | nil=>rfl | cons _ _=>simp at this
    rw [hd];simp
   ·have:n=1:=by simpa using hc
    subst this;simp
  rw [this] at k
  exact k _ _ (cp.here S (.tup ht la))
 ·rw [show mV (.tup ds) (.int n) h=none by show (if _ then _ else _)=_;rw [if_neg c]] at ee
  cases ee
end
end Sm
namespace Pg
open PySem Sm L2
abbrev Term:=Str×Int
abbrev Lock:=Str×Term
inductive Row where
 | say (w:Str)
 | call (d:Str) (ts:List Term)
 | within (l:Lock) (b:List Row)
 | all (ls:List Lock) (b:List Row)
 | ask (l:Lock) (b e:List Row)
 | by_ (s t:Term) (a b c:List Row)
 | either (a b:List Row)
 | again (a:List Row)
def aY (t:Term):D:=.tup [.str t.1,.int t.2]
def aH (l:Lock):D:=.tup [.str l.1,aY l.2]
mutual
def bp:Row→D
 | .say w=>.tup [.str "say",.str w]
 | .call d ts=>.tup [.str "call",.str d,.tup (ts.map aY)]
 | .within l b=>.tup [.str "within",aH l,.tup (bh b)]
 | .all ls b=>.tup [.str "all",.tup (ls.map aH),.tup (bh b)]
 | .ask l b e=>.tup [.str "ask",aH l,.tup (bh b),.tup (bh e)]
 | .by_ s t a b c=>.tup [.str "by",aY s,aY t,.tup (bh a),.tup (bh b),.tup (bh c)]
 | .either a b=>.tup [.str "either",.tup (bh a),.tup (bh b)]
 | .again a=>.tup [.str "again",.tup (bh a)]
def bh:List Row→List D
 | []=>[]
 | r::rs=>bp r::bh rs
end
theorem gd:∀l:List Row,bh l=l.map bp
 | []=>by simp [bh]
 | r::rs=>by simp [bh,gd rs]
mutual
def cnt:Row→Nat
 | .say _=>1
 | .call _ _=>1
 | .within _ b=>1+bC b
 | .all _ b=>1+bC b
 | .ask _ b e=>1+bC b+bC e
 | .by_ _ _ a b c=>1+bC a+bC b+bC c
 | .either a b=>1+bC a+bC b
 | .again a=>1+bC a
def bC:List Row→Nat
 | []=>0
 | r::rs=>cnt r+bC rs
end
theorem ni:∀a b:List Row,bC (a++b)=bC a+bC b
 | [],b=>by simp [bC]
 | r::a,b=>by simp [bC,ni a b];omega
structure Wd where
 names:List Str
 deeds:List Str
 params:List (List Str)
def c7 (ps:List Str) (t:Term):Prop:=(t.1=Str.ofString ""∨t.1∈ps)∧-99≤t.2∧t.2≤99
def cH (W:Wd) (ps:List Str) (l:Lock):Prop:=l.1∈W.names∧c7 ps l.2
mutual
def cj (W:Wd) (ps:List Str):Nat→Row→Prop
 | _,.say w=>w∈W.names++W.deeds
 | _,.call d ts=>(∃(j:Nat) (qs:List Str),W.deeds[j]?=some d∧W.params[j]?=some qs∧ts.length=qs.length)∧∀t∈ts,c7 ps t
 | n,.within l b=>cH W ps l∧n < 5∧b.length≤12∧bA W ps (n+1) b
 | n,.all ls b=>(2≤ls.length∧ls.length≤4∧ls.Nodup∧∀l∈ls,cH W ps l)∧n < 5∧b.length≤12∧bA W ps (n+1) b
 | n,.ask l b e=>cH W ps l∧n < 5∧b.length≤12∧e.length≤12∧bA W ps (n+1) b∧bA W ps (n+1) e
 | n,.by_ s t a b c=>c7 ps s∧c7 ps t∧n < 5∧a.length≤12∧b.length≤12∧c.length≤12∧bA W ps (n+1) a∧bA W ps (n+1) b∧bA W ps (n+1) c
 | n,.either a b=>n < 5∧a.length≤12∧b.length≤12∧bA W ps (n+1) a∧bA W ps (n+1) b
 | n,.again a=>n < 5∧a.length≤12∧bA W ps (n+1) a
def bA (W:Wd) (ps:List Str):Nat→List Row→Prop
 | _,[]=>True
 | n,r::rs=>cj W ps n r∧bA W ps n rs
end
theorem j5 {W:Wd} {ps:List Str} {n:Nat}:∀{a b:List Row},bA W ps n a→bA W ps n b→bA W ps n (a++b)
 | [],b,_,h=>h
 | r::a,b,h,h'=>by
  unfold bA at h
  show bA W ps n (r::(a++b))
  unfold bA
  exact ⟨h.1,j5 h.2 h'⟩
end Pg
namespace Mi
open PySem L2 Sm PySem.Spec PyProof.Rows
def top (i:Nat):Stmt:=PySem.Challenge.pw_neverstuck_k46_further_locks.main.body.getD i (.Pass ⟨0,0,0,0⟩)
structure Bs (P:Program) (w:World) (K:PySem.W.Frag) (mg:Str→Option Value):Prop where
 abs_:mg "abs"=none
 bool_:mg "bool"=none
 dict_:mg "dict"=none
 enumerate_:mg "enumerate"=none
 int_:mg "int"=none
 isinstance_:mg "isinstance"=none
 len_:mg "len"=none
 list_:mg "list"=none
 max_:mg "max"=none
 min_:mg "min"=none
 range_:mg "range"=none
 sorted_:mg "sorted"=none
 tuple_:mg "tuple"=none
 zip_:mg "zip"=none
abbrev dU:Stmt:=top 4
theorem ju:FnScope ["_law_script"] ["_law_script"] (aD dU):=⟨rfl,rfl,rfl,by decide+kernel,rfl,by decide+kernel,by decide+kernel⟩
def bZ:Fn:=mkF 1
  (bH (eOb (ae (eK (.int 0)) (ae (eOb (rK (ae (nX (af 0) pNo (pAt (eK (.int 63)))) ao))) (ae (eK (.int 0)) ao)))))
abbrev eS:Stmt:=top 5
theorem bJ:FnScope ["_law_state","_law_cells","_law_tour","_law_cell","_law_mixed"] ["_law_state"] (aD eS):=⟨rfl,rfl,rfl,by decide+kernel,rfl,by decide+kernel,by decide+kernel⟩
def cQ:Fn:=mkF 5
  (aB (aU 1 (eOp fIx (af 0) (eK (.int 1))))
  (aB (aU 2 (eOp fIx (af 0) (eK (.int 2))))
  (aB (g8 (eOp aV (af 2) (eK (.int 1))) (jH (af 0) (eK (.int 2))))
  (aB (aU 3 (eK (.int 0)))
  (aB (sIf (aR (eOp fv (af 1) (eLv ao))) (aU 3 (eOp fIx (af 1) (eOp i9 (af 2) (eFn cU (ae (af 1) ao))))) cD)
  (sIf (gz (aR (eOp fLt (af 2) (eFn cU (ae (af 1) ao)))) (aR (eOp fGe (eFn wq (ae (af 3) ao)) (eOp pK (eK (.int 10)) (eK (.int 18)))))) (g8 (eFn wq (ae (af 3) ao)) (jH (af 0) (eK (.int 0)))) (aB (aU 4 (eOp i9 (eOp dr (eOp aV (eOp aV (eOp i9 (af 3) (eK (.int 2305843009213693951))) (eOp dr (eOp dr (eK (.int 7919)) (af 2)) (af 2))) (eK (.int 11))) (eK (.int 48271))) (eK (.int 2305843009213693951))))
  (aB (aU 4 (eOp i9 (eOp dr (af 4) (af 4)) (eK (.int 2305843009213693921))))
  (g8 (eOp aV (eOp i9 (eOp aV (eOp aV (eOp dr (af 4) (eK (.int 69621))) (af 2)) (eK (.int 104729))) (eK (.int 2305843009213693951))) (eOp pK (eK (.int 10)) (eK (.int 9)))) (jH (af 0) (eK (.int 0))))))))))))
abbrev eQ:Stmt:=top 6
theorem fY:FnScope ["_law_state","_law_many","_law_found"] ["_law_state","_law_many"] (aD eQ):=⟨rfl,rfl,rfl,by decide+kernel,rfl,by decide+kernel,by decide+kernel⟩
def ar:Fn:=mkF 3
  (aB (sIf (aR (eOp fLt (eOp fIx (af 0) (eK (.int 0))) (af 1))) (iE (eFn cQ (ae (af 0) ao))) cD)
  (aB (aU 2 (eOp i9 (eOp fIx (af 0) (eK (.int 0))) (af 1)))
  (aB (g8 (eOp qY (eOp fIx (af 0) (eK (.int 0))) (af 1)) (jH (af 0) (eK (.int 0))))
  (bH (af 2)))))
abbrev gF:Stmt:=top 7
theorem nB:FnScope ["_law_state","_law_some"] ["_law_state","_law_some"] (aD gF):=⟨rfl,rfl,rfl,by decide+kernel,rfl,by decide+kernel,by decide+kernel⟩
def aw:Fn:=mkF 2
  (bH (eOp fIx (af 1) (eFn ar (ae (af 0) (ae (eFn cU (ae (af 1) ao)) ao)))))
abbrev dS:Stmt:=top 8
theorem bc:FnScope ["_law_state","_law_many","_law_letters","_law_stem","_law_k","_law_at","_law_first","_law_stride"] ["_law_state","_law_many"] (aD dS):=⟨rfl,rfl,rfl,by decide+kernel,rfl,by decide+kernel,by decide+kernel⟩
def bM:Fn:=mkF 8
  (aB (aU 2 (eK (.str "abcdefghijklmnopqrstuvwxyz")))
  (aB (aU 3 (eK (.str "")))
  (aB (jv (i7 (ae (eFn aw (ae (af 0) (ae (eK (.lv [.int 0,.int 1,.int 1,.int 2,.int 3,.int 6])) ao))) ao)) (gN 4) (aU 3 (eOp aV (af 3) (eOp fIx (af 2) (eFn ar (ae (af 0) (ae (eK (.int 26)) ao)))))))
  (aB (aU 5 (eFn ar (ae (af 0) (ae (eOp aV (eFn cU (ae (af 3) ao)) (eK (.int 1))) ao))))
  (aB (aU 6 (eFn ar (ae (af 0) (ae (eK (.int 26)) ao))))
  (aB (aU 7 (eFn aw (ae (af 0) (ae (eK (.lv [.int 1,.int 3,.int 5,.int 7,.int 9,.int 11])) ao))))
  (bH (eLv (de [none,some 5,some 6,some 2,some 3,some 7] (i7 (ae (af 1) ao)) (gN 0) fA (eOp aV (eOp aV (nX (af 4) pNo (pAt (af 1))) (eOp fIx (af 3) (eOp i9 (eOp aV (af 2) (eOp dr (af 5) (af 0))) (eK (.int 26))))) (nX (af 4) (pAt (af 1)) pNo)))))))))))
abbrev dR:Stmt:=top 9
theorem bz:FnScope ["_law_state","_law_most","_law_odd","_law_names","_law_deeds","_law_params","_law_many","_law_floors"] ["_law_state","_law_most","_law_odd"] (aD dR):=⟨rfl,rfl,rfl,by decide+kernel,rfl,by decide+kernel,by decide+kernel⟩
def cC:Fn:=mkF 8
  (aB (aU 3 (eFn bM (ae (af 0) (ae (eFn aw (ae (af 0) (ae (eK (.lv [.int 1,.int 2,.int 2,.int 3,.int 4,.int 6])) ao))) ao))))
  (aB (aU 4 (eFn bM (ae (af 0) (ae (eFn aw (ae (af 0) (ae (eK (.lv [.int 1,.int 1,.int 2,.int 2,.int 3,.int 4,.int 6])) ao))) ao))))
  (aB (aU 5 (eFn bM (ae (af 0) (ae (eK (.int 3)) ao))))
  (aB (aU 6 (eLv (de [none,some 0] (jG (af 4)) (gN 0) fA (eFn aw (ae (af 1) (ae (eK (.lv [.int 0,.int 1,.int 1,.int 2,.int 2,.int 3])) ao))))))
  (aB (aU 7 (eFn qV (ae (eLv (de [none,some 3,some 0] (jG (af 4)) (gN 0) fA (eFn ar (ae (af 2) (ae (eFn cU (ae (af 1) ao)) ao))))) ao)))
  (aB (aU 5 (eLv (de [none,some 5] (jG (af 6)) (gN 0) fA (nX (af 1) pNo (pAt (af 0))))))
  (bH (nY (dC (eK (.str "names")) (af 3) (dC (eK (.str "deeds")) (af 4) (dC (eK (.str "params")) (af 5) (dC (eK (.str "floors")) (af 7) (dC (eK (.str "left")) (af 1) (dC (eK (.str "odd")) (af 2) vA))))))))))))))
abbrev dA:Stmt:=top 10
theorem iD:FnScope ["_law_state","_law_world_here"] ["_law_state","_law_world_here"] (aD dA):=⟨rfl,rfl,rfl,by decide+kernel,rfl,by decide+kernel,by decide+kernel⟩
def bg:Fn:=mkF 2
  (bH (tT (eOp fGt (eOp fIx (af 1) (eK (.str "odd"))) (eK (.int 0))) (eOp cP (eFn ar (ae (af 0) (ae (eOp fIx (af 1) (eK (.str "odd"))) ao))) (eK (.int 0)))))
abbrev eP:Stmt:=top 11
theorem fX:FnScope ["_law_state","_law_params","_law_far"] ["_law_state","_law_params"] (aD eP):=⟨rfl,rfl,rfl,by decide+kernel,rfl,by decide+kernel,by decide+kernel⟩
def aT:Fn:=mkF 3
  (aB (aU 2 (eOp lH (eFn ar (ae (af 0) (ae (eK (.int 81)) ao))) (eK (.int 40))))
  (aB (sIf (gz (aR (eOp fGt (eFn cU (ae (af 1) ao)) (eK (.int 0)))) (aR (eOp fGt (eFn ar (ae (af 0) (ae (eK (.int 5)) ao))) (eK (.int 0))))) (bH (eFn ba (ae (eFn aw (ae (af 0) (ae (af 1) ao))) (ae (eFn aw (ae (af 0) (ae (eLv (ae (eK (.int 0)) (ae (eK (.int 0)) (ae (eK (.int 0)) (ae (eK (.int 0)) (ae (eK (.int 1)) (ae (eK (.int 1)) (ae (eUn g7 (eK (.int 1))) (ae (eK (.int 2)) (ae (af 2) ao)))))))))) ao))) ao)))) cD)
  (bH (eFn ba (ae (eK (.str "")) (ae (eFn aw (ae (af 0) (ae (eLv (ae (eK (.int 0)) (ae (eK (.int 0)) (ae (eK (.int 1)) (ae (eK (.int 1)) (ae (eK (.int 2)) (ae (eK (.int 3)) (ae (eUn g7 (eK (.int 1))) (ae (af 2) ao))))))))) ao))) ao))))))
abbrev eT:Stmt:=top 13
theorem cv:FnScope ["_law_state","_law_world_here","_law_deed","_law_top","_law_some","_law_other","_law_terms"] ["_law_state","_law_world_here","_law_deed","_law_top"] (aD eT):=⟨rfl,rfl,rfl,by decide+kernel,rfl,by decide+kernel,by decide+kernel⟩
def cR:Fn:=mkF 7
  (aB (aU 4 (eLv (de [none,some 2,some 3,some 1] (i7 (ae (eFn cU (ae (eOp fIx (af 1) (eK (.str "deeds"))) ao)) ao)) (gN 0) (gz (aR (eOp fGt (eOp fIx (eOp fIx (af 3) (eK (.str "floors"))) (af 0)) (af 2))) (aR (eOp fGe (af 0) (af 1)))) (af 0))))
  (aB (sIf (mh (eFn bg (ae (af 0) (ae (af 1) ao)))) (aU 4 (eLv (wB (ae (eFn cU (ae (eOp fIx (af 1) (eK (.str "deeds"))) ao)) ao)))) cD)
  (aB (sIf (aR (eOp cP (af 4) (eLv ao))) (bH (eFn ba (ae (eK (.str "say")) (ae (eOp fIx (eOp fIx (af 1) (eK (.str "deeds"))) (af 2)) ao)))) cD)
  (aB (aU 5 (eFn aw (ae (af 0) (ae (af 4) ao))))
  (aB (aU 6 (eLv (de [none,some 2,some 0,some 1] (jG (eOp fIx (eOp fIx (af 1) (eK (.str "params"))) (af 5))) (gN 0) fA (eFn aT (ae (af 2) (ae (eOp fIx (eOp fIx (af 3) (eK (.str "params"))) (af 1)) ao))))))
  (bH (eFn ba (ae (eK (.str "call")) (ae (eOp fIx (eOp fIx (af 1) (eK (.str "deeds"))) (af 5)) (ae (eFn cI (ae (af 6) ao)) ao))))))))))
abbrev eR:Stmt:=top 12
theorem bw:FnScope ["_law_state","_law_world_here","_law_deed","_law_top","_law_held","_law_low","_law_at","_law_name","_law_same","_law_word","_law_more"] ["_law_state","_law_world_here","_law_deed","_law_top","_law_held"] (aD eR):=⟨rfl,rfl,rfl,by decide+kernel,rfl,by decide+kernel,by decide+kernel⟩
def cm:Fn:=mkF 11
  (aB (aU 5 (eFn lL (ae (af 3) (ae (eOp fIx (eOp fIx (af 1) (eK (.str "floors"))) (af 2)) ao))))
  (aB (sIf (aR (eOp cP (af 5) (eFn cU (ae (eOp fIx (af 1) (eK (.str "names"))) ao)))) (bH (eFn ba (ae (eK .non) (ae (eK .non) ao)))) cD)
  (aB (aU 6 (eOp aV (af 5) (eFn ar (ae (af 0) (ae (eOp lH (eFn cU (ae (eOp fIx (af 1) (eK (.str "names"))) ao)) (af 5)) ao)))))
  (aB (sIf (mh (eFn bg (ae (af 0) (ae (af 1) ao)))) (aU 6 (eFn ar (ae (af 0) (ae (eFn cU (ae (eOp fIx (af 1) (eK (.str "names"))) ao)) ao)))) cD)
  (aB (aU 7 (eOp fIx (eOp fIx (af 1) (eK (.str "names"))) (af 6)))
  (aB (aU 8 (eLv (de [none,some 7] (jG (af 4)) (gN 0) (aR (eOp cP (eOp fIx (af 0) (eK (.int 0))) (af 1))) (eOp fIx (af 0) (eK (.int 1))))))
  (aB (sIf (gz (aR (eOp fv (af 8) (eLv ao))) (o5 (mh (eFn bg (ae (af 0) (ae (af 1) ao)))))) (aB (g8 (eOp fIx (af 8) (eUn g7 (eK (.int 1)))) (gT 2 (cw (gN 9) (cw (gN 10) gY))))
  (bH (eFn ba (ae (af 6) (ae (eFn ba (ae (af 7) (ae (eFn ba (ae (af 9) (ae (eFn qW (ae (eK (.int 99)) (ae (eOp aV (eOp aV (af 10) (eK (.int 1))) (eFn ar (ae (af 0) (ae (eK (.int 2)) ao)))) ao))) ao))) ao))) ao))))) cD)
  (bH (eFn ba (ae (af 6) (ae (eFn ba (ae (af 7) (ae (eFn aT (ae (af 0) (ae (eOp fIx (eOp fIx (af 1) (eK (.str "params"))) (af 2)) ao))) ao))) ao)))))))))))
abbrev fD:Stmt:=top 17
theorem eO:FnScope ["_law_state","_law_world_here","_law_deed","_law_deep","_law_top","_law_held","_law_most","_law_rows","_law_k"] ["_law_state","_law_world_here","_law_deed","_law_deep","_law_top","_law_held","_law_most"] (aD fD):=⟨rfl,rfl,rfl,by decide+kernel,rfl,by decide+kernel,by decide+kernel⟩
abbrev fC:Stmt:=top 16
theorem bT:FnScope ["_law_state","_law_world_here","_law_deed","_law_deep","_law_top","_law_held","_law_way","_law_one","_law_other","_law_lots","_law_sort"] ["_law_state","_law_world_here","_law_deed","_law_deep","_law_top","_law_held"] (aD fC):=⟨rfl,rfl,rfl,by decide+kernel,rfl,by decide+kernel,by decide+kernel⟩
abbrev dz:Stmt:=top 15
theorem aM:FnScope ["_law_state","_law_world_here","_law_deed","_law_deep","_law_top","_law_held","_law_way","_law_at","_law_lock_here","_law_some","_law_high","_law_turn","_law_low","_law_other","_law_lot_here"] ["_law_state","_law_world_here","_law_deed","_law_deep","_law_top","_law_held","_law_way"] (aD dz):=⟨rfl,rfl,rfl,by decide+kernel,rfl,by decide+kernel,by decide+kernel⟩
abbrev cT:Stmt:=top 14
theorem aQ:FnScope ["_law_state","_law_world_here","_law_deed","_law_deep","_law_top","_law_held","_law_low","_law_name","_law_one","_law_other","_law_lots","_law_first","_law_second","_law_inner"] ["_law_state","_law_world_here","_law_deed","_law_deep","_law_top","_law_held"] (aD cT):=⟨rfl,rfl,rfl,by decide+kernel,rfl,by decide+kernel,by decide+kernel⟩
mutual
def aS:Nat→Fn
 | 0=>fun _ _=>none
 | n+1=>mkL 9
  (aB (aU 7 (eOb ao))
  (aB (jv (i7 (ae (eFn ar (ae (af 0) (ae (eOp aV (eFn aw (ae (af 0) (ae (eOp aV (eOp tP (eLv (ae (af 6) ao)) (eK (.int 15))) (eLv (ae (eK (.int 12)) ao))) ao))) (eK (.int 1))) ao))) ao)) (gN 8) (sIf (aR (eOp fGt (eOp fIx (af 1) (eK (.str "left"))) (eK (.int 0)))) (aB (g8 (eOp lH (eOp fIx (af 1) (eK (.str "left"))) (eK (.int 1))) (jH (af 1) (eK (.str "left"))))
  (iE (eM fb di (af 7) (ae (eFn (cJ n) (ae (af 0) (ae (af 1) (ae (af 2) (ae (af 3) (ae (af 4) (ae (af 5) ao))))))) ao)))) cD))
  (bH (eFn cI (ae (af 7) ao)))))
def cJ:Nat→Fn
 | 0=>fun _ _=>none
 | n+1=>mkF 11
  (aB (aU 6 (eFn ar (ae (af 0) (ae (eK (.int 16)) ao))))
  (aB (sIf (tOr (aR (eOp fLt (af 6) (eK (.int 2)))) (gz (aR (eOp cP (af 3) (eK (.int 5)))) (aR (eOp fLt (af 6) (eK (.int 11)))))) (bH (eFn ba (ae (eK (.str "say")) (ae (eFn aw (ae (af 0) (ae (eOp aV (eOp fIx (af 1) (eK (.str "names"))) (eOp fIx (af 1) (eK (.str "deeds")))) ao))) ao)))) cD)
  (aB (sIf (tOr (aR (eOp fGt (af 6) (eK (.int 12)))) (aR (eOp cP (af 3) (eK (.int 5))))) (bH (eFn cR (ae (af 0) (ae (af 1) (ae (af 2) (ae (af 4) ao)))))) cD)
  (aB (sIf (gz (aR (eOp cP (af 6) (eK (.int 12)))) (gz (aR (eOp fLt (af 3) (eK (.int 3)))) (aR (eOp fGt (eOp fIx (af 1) (eK (.str "left"))) (eK (.int 5)))))) (bH (eFn (bu n) (ae (af 0) (ae (af 1) (ae (af 2) (ae (af 3) (ae (af 4) (ae (af 5) ao)))))))) cD)
  (aB (sIf (tOr (aR (eOp cP (af 6) (eK (.int 11)))) (aR (eOp cP (af 6) (eK (.int 12))))) (aB (pb 7 8 (ae (eFn aT (ae (af 0) (ae (eOp fIx (eOp fIx (af 1) (eK (.str "params"))) (af 2)) ao))) (ae (eFn aT (ae (af 0) (ae (eOp fIx (eOp fIx (af 1) (eK (.str "params"))) (af 2)) ao))) ao)))
  (aB (aU 9 (eLv (de [none,some 2,some 3,some 5,some 0,some 4,some 1] (i7 (ae (eK (.int 3)) ao)) (gN 0) fA (eFn (aS n) (ae (af 4) (ae (af 6) (ae (af 1) (ae (eOp aV (af 2) (eK (.int 1))) (ae (af 5) (ae (af 3) (ae (eK (.int 2)) ao)))))))))))
  (bH (eOp aV (eFn ba (ae (eK (.str "by")) (ae (af 7) (ae (af 8) ao)))) (eFn cI (ae (af 9) ao)))))) cD)
  (aB (sIf (aR (eOp cP (af 6) (eK (.int 10)))) (aB (aU 9 (eLv (de [none,some 2,some 3,some 5,some 0,some 4,some 1] (i7 (ae (eK (.int 2)) ao)) (gN 0) fA (eFn (aS n) (ae (af 4) (ae (af 6) (ae (af 1) (ae (eOp aV (af 2) (eK (.int 1))) (ae (af 5) (ae (af 3) (ae (eK (.int 2)) ao)))))))))))
  (bH (eOp aV (eFn ba (ae (eK (.str "either")) ao)) (eFn cI (ae (af 9) ao))))) cD)
  (aB (sIf (aR (eOp cP (af 6) (eK (.int 9)))) (bH (eFn ba (ae (eK (.str "again")) (ae (eFn (aS n) (ae (af 0) (ae (af 1) (ae (af 2) (ae (eOp aV (af 3) (eK (.int 1))) (ae (af 4) (ae (af 5) (ae (eK (.int 2)) ao)))))))) ao)))) cD)
  (aB (aU 10 (eFn aw (ae (af 0) (ae (eK (.lv [.str "within",.str "within",.str "within",.str "within",.str "ask",.str "all"])) ao))))
  (bH (eFn (bP n) (ae (af 0) (ae (af 1) (ae (af 2) (ae (af 3) (ae (af 4) (ae (af 5) (ae (af 10) ao)))))))))))))))))
def bP:Nat→Fn
 | 0=>fun _ _=>none
 | n+1=>mkL 15
  (aB (g8 (eFn cm (ae (af 0) (ae (af 1) (ae (af 2) (ae (af 4) (ae (af 5) ao)))))) (gT 2 (cw (gN 7) (cw (gN 8) gY))))
  (aB (sIf (aR (eOp xU (af 7) (eK .non))) (bH (eFn ba (ae (eK (.str "say")) (ae (eOp fIx (eOp fIx (af 1) (eK (.str "deeds"))) (af 2)) ao)))) cD)
  (aB (sIf (aR (eOp cP (af 6) (eK (.str "all")))) (aB (pb 9 10 (ae (eOb (ae (af 8) ao)) (ae (af 7) ao)))
  (aB (jv (i7 (ae (eFn aw (ae (af 0) (ae (eK (.lv [.int 1,.int 1,.int 2,.int 3])) ao))) ao)) (gN 11) (aB (g8 (eFn cm (ae (af 0) (ae (af 1) (ae (af 2) (ae (af 4) (ae (af 5) ao)))))) (gT 2 (cw (gN 12) (cw (gN 13) gY))))
  (aB (aU 10 (eFn lL (ae (af 10) (ae (af 12) ao))))
  (aU 9 (eOb (wC (af 9) (eOp tP (eLv (ae (af 13) ao)) (eFn mW (ae (eOp lK (af 13) (af 9)) ao)))))))))
  (aB (sIf (aR (eOp cP (eFn cU (ae (af 9) ao)) (eK (.int 1)))) (iE (eM fb di (af 9) (ae (eFn ba (ae (eOp fIx (af 8) (eK (.int 0))) (ae (eFn ba (ae (eOp fIx (eOp fIx (af 8) (eK (.int 1))) (eK (.int 0))) (ae (eOp lH (eOp aV (eOp fIx (eOp fIx (af 8) (eK (.int 1))) (eK (.int 1))) (eK (.int 1))) (eOp dr (eK (.int 2)) (eFn mW (ae (eOp fGt (eOp fIx (eOp fIx (af 8) (eK (.int 1))) (eK (.int 1))) (eK (.int 90))) ao)))) ao))) ao))) ao))) cD)
  (aB (aU 10 (eOp aV (af 10) (eFn mW (ae (eOp cP (eOp fIx (af 1) (eK (.str "odd"))) (eK (.int 0))) ao))))
  (bH (eFn ba (ae (eK (.str "all")) (ae (eFn cI (ae (af 9) ao)) (ae (eFn (aS n) (ae (af 0) (ae (af 1) (ae (af 2) (ae (eOp aV (af 3) (eK (.int 1))) (ae (eFn lL (ae (af 4) (ae (af 10) ao))) (ae (eOp aV (af 5) (af 9)) (ae (eK (.int 3)) ao)))))))) ao))))))))) cD)
  (aB (aU 14 (eFn (aS n) (ae (af 0) (ae (af 1) (ae (af 2) (ae (eOp aV (af 3) (eK (.int 1))) (ae (eFn lL (ae (af 4) (ae (af 7) ao))) (ae (eOp aV (af 5) (eLv (ae (af 8) ao))) (ae (eK (.int 3)) ao)))))))))
  (aB (sIf (aR (eOp cP (af 6) (eK (.str "ask")))) (bH (eFn ba (ae (eK (.str "ask")) (ae (af 8) (ae (af 14) (ae (eFn (aS n) (ae (af 0) (ae (af 1) (ae (af 2) (ae (eOp aV (af 3) (eK (.int 1))) (ae (af 4) (ae (af 5) (ae (eK (.int 2)) ao)))))))) ao)))))) cD)
  (bH (eFn ba (ae (eK (.str "within")) (ae (af 8) (ae (af 14) ao))))))))))
def bu:Nat→Fn
 | 0=>fun _ _=>none
 | n+1=>mkL 14
  (aB (aU 6 (eFn lL (ae (af 4) (ae (eOp fIx (eOp fIx (af 1) (eK (.str "floors"))) (af 2)) ao))))
  (aB (sIf (aR (eOp cP (af 6) (eFn cU (ae (eOp fIx (af 1) (eK (.str "names"))) ao)))) (bH (eFn ba (ae (eK (.str "say")) (ae (eOp fIx (eOp fIx (af 1) (eK (.str "deeds"))) (af 2)) ao)))) cD)
  (aB (sIf (aR (eOp fv (eLv (de [none,some 6,some 1] (jG (af 5)) (gN 0) (aR (eOp cP (eOp fIx (af 0) (eK (.int 0))) (eOp fIx (eOp fIx (af 2) (eK (.str "names"))) (af 1)))) (af 0))) (eLv ao))) (bH (eFn ba (ae (eK (.str "say")) (ae (eOp fIx (eOp fIx (af 1) (eK (.str "deeds"))) (af 2)) ao)))) cD)
  (aB (aU 7 (eOp fIx (eOp fIx (af 1) (eK (.str "names"))) (af 6)))
  (aB (g8 (eOp lH (eOp fIx (af 1) (eK (.str "left"))) (eK (.int 5))) (jH (af 1) (eK (.str "left"))))
  (aB (pb 8 9 (ae (eFn aT (ae (af 0) (ae (eOp fIx (eOp fIx (af 1) (eK (.str "params"))) (af 2)) ao))) (ae (eFn aT (ae (af 0) (ae (eOp fIx (eOp fIx (af 1) (eK (.str "params"))) (af 2)) ao))) ao)))
  (aB (aU 10 (eOb ao))
  (aB (jv (jG (eLv (ae (eFn ba (ae (af 8) (ae (af 9) ao))) (ae (eFn ba (ae (af 9) (ae (af 8) ao))) ao)))) (gT 2 (cw (gN 11) (cw (gN 12) gY))) (aB (aU 13 (eFn (aS n) (ae (af 0) (ae (af 1) (ae (af 2) (ae (eOp aV (af 3) (eK (.int 3))) (ae (af 6) (ae (eOp aV (af 5) (eLv (ae (eFn ba (ae (af 7) (ae (af 11) ao))) (ae (eFn ba (ae (af 7) (ae (af 12) ao))) ao)))) (ae (eK (.int 2)) ao)))))))))
  (iE (eM fb di (af 10) (ae (eFn ba (ae (eFn ba (ae (eK (.str "within")) (ae (eFn ba (ae (af 7) (ae (af 11) ao))) (ae (eFn ba (ae (eFn ba (ae (eK (.str "within")) (ae (eFn ba (ae (af 7) (ae (af 12) ao))) (ae (af 13) ao)))) ao)) ao)))) ao)) ao)))))
  (bH (eFn ba (ae (eK (.str "by")) (ae (af 8) (ae (af 9) (ae (eOp fIx (af 10) (eK (.int 0))) (ae (eFn ba (ae (eFn ba (ae (eK (.str "within")) (ae (eFn ba (ae (af 7) (ae (af 8) ao))) (ae (eFn ba ao) ao)))) ao)) (ae (eOp fIx (af 10) (eK (.int 1))) ao))))))))))))))))
end
abbrev c6:Stmt:=top 18
theorem bq:FnScope ["_law_state","_law_most","_law_odd","_law_world_here","_law_deeds","_law_k","_law_deed","_law_rows"] ["_law_state","_law_most","_law_odd"] (aD c6):=⟨rfl,rfl,rfl,by decide+kernel,rfl,by decide+kernel,by decide+kernel⟩
def bV:Fn:=mkL 8
  (aB (aU 3 (eFn cC (ae (af 0) (ae (af 1) (ae (af 2) ao)))))
  (aB (aU 4 (eOb ao))
  (aB (jv (qQ (ae (eOp fIx (af 3) (eK (.str "deeds"))) ao)) (gT 2 (cw (gN 5) (cw (gN 6) gY))) (aB (aU 7 (eFn (aS 20) (ae (af 0) (ae (af 3) (ae (af 5) (ae (eK (.int 1)) (ae (eUn g7 (eK (.int 1))) (ae (eLv ao) (ae (eFn aw (ae (af 0) (ae (eK (.lv [.int 1,.int 2,.int 3,.int 4,.int 12])) ao))) ao)))))))))
  (iE (eM fb di (af 4) (ae (eFn ba (ae (af 6) (ae (eFn cI (ae (eOp fIx (eOp fIx (af 3) (eK (.str "params"))) (af 5)) ao)) (ae (af 7) ao)))) ao)))))
  (bH (eFn ba (ae (eFn cI (ae (eFn qU (ae (eOp fIx (af 3) (eK (.str "names"))) ao)) ao)) (ae (eFn cI (ae (af 4) ao)) ao)))))))
abbrev dy:Stmt:=top 20
theorem iC:FnScope ["_law_state"] ["_law_state"] (aD dy):=⟨rfl,rfl,rfl,by decide+kernel,rfl,by decide+kernel,by decide+kernel⟩
def bO:Fn:=mkF 1
  (bH (eFn aw (ae (af 0) (ae (eLv (ae (eK (.int 0)) (ae (eK (.int 1)) (ae (eUn g7 (eK (.int 1))) (ae (eK (.int 5)) (ae (eK (.int 99)) (ae (eUn g7 (eK (.int 99))) (ae (eOp pK (eK (.int 10)) (eK (.int 29))) (ae (eUn g7 (eOp pK (eK (.int 10)) (eK (.int 29)))) (ae (eOp lH (eFn ar (ae (af 0) (ae (eK (.int 9)) ao))) (eK (.int 4))) ao)))))))))) ao))))
abbrev cS:Stmt:=top 1
theorem gE:FnScope ["program","paper"] ["program","paper"] (aD cS):=⟨rfl,rfl,rfl,by decide+kernel,rfl,by decide+kernel,by decide+kernel⟩
def bt:Fn:=mkF 2
  (bH (nZ (ae (eOp fIx (af 0) (eK (.int 0))) (ae (eOp fIx (af 1) (eK (.int 0))) ao))))
abbrev dQ:Stmt:=top 2
theorem cL:FnScope ["program","paper","one","other","ranks","layer","side"] ["program","paper","one","other"] (aD dQ):=⟨rfl,rfl,rfl,by decide+kernel,rfl,by decide+kernel,by decide+kernel⟩
def bL:Fn:=mkF 7
  (aB (aU 4 (eFn bt (ae (af 0) (ae (af 1) ao))))
  (aB (g8 (eOp fIx (af 4) (eOp fIx (af 2) (eK (.int 0)))) (gT 2 (cw (gN 5) (cw (gN 6) gY))))
  (aB (sIf (aR (eOp fGt (af 5) (eOp fIx (eOp fIx (af 4) (eOp fIx (af 3) (eK (.int 0)))) (eK (.int 0))))) (bH (eK (.bl true))) cD)
  (bH (tT (eOp cP (eOp fIx (af 2) (eK (.int 0))) (eOp fIx (af 3) (eK (.int 0)))) (eOp fGt (eOp dr (eOp fIx (af 2) (eK (.int 1))) (af 6)) (eOp dr (eOp fIx (af 3) (eK (.int 1))) (af 6))))))))
abbrev fE:Stmt:=top 19
theorem my:FnScope ["_law_ranks","_law_one","_law_other"] ["_law_ranks","_law_one","_law_other"] (aD fE):=⟨rfl,rfl,rfl,by decide+kernel,rfl,by decide+kernel,by decide+kernel⟩
def cg:Fn:=mkF 3
  (aB (sIf (aR (eOp cP (eOp fIx (af 1) (eK (.int 0))) (eOp fIx (af 2) (eK (.int 0))))) (bH (eOp fGt (eOp dr (eOp lH (eOp fIx (af 1) (eK (.int 1))) (eOp fIx (af 2) (eK (.int 1)))) (eOp fIx (eOp fIx (af 0) (eOp fIx (af 1) (eK (.int 0)))) (eK (.int 1)))) (eK (.int 0)))) cD)
  (bH (eOp fGt (eOp fIx (eOp fIx (af 0) (eOp fIx (af 1) (eK (.int 0)))) (eK (.int 0))) (eOp fIx (eOp fIx (af 0) (eOp fIx (af 2) (eK (.int 0)))) (eK (.int 0))))))
abbrev gU:Stmt:=top 21
theorem cG:FnScope ["_law_script","_law_state","_law_turn","_law_program_here","_law_most","_law_ranks","_law_paper","_law_by_name","_law_k","_law_one","_law_other","_law_found","_law_back"] ["_law_script"] (aD gU):=⟨rfl,rfl,rfl,by decide+kernel,rfl,by decide+kernel,by decide+kernel⟩
def oZ:Fn:=mkF 13
  (aB (aU 1 (eFn bZ (ae (af 0) ao)))
  (aB (jv (i7 (ae (eK (.int 2)) ao)) (gN 2) (aB (aU 3 (eFn bV (ae (af 1) (ae (eK (.int 8)) (ae (eK (.int 4)) ao)))))
  (aB (aU 4 (eFn aw (ae (af 1) (ae (eLv (ae (eK (.int 2)) (ae (eK (.int 10)) ao))) ao))))
  (aB (aU 5 (eFn cI (ae (eLv (de [none,some 4,some 1] (jG (eOp fIx (af 3) (eK (.int 0)))) (gN 0) fA (eFn ba (ae (eFn ar (ae (af 2) (ae (af 1) ao))) (ae (eFn aw (ae (af 2) (ae (eLv (ae (eK (.int 1)) (ae (eUn g7 (eK (.int 1))) ao))) ao))) ao))))) ao)))
  (aB (aU 6 (eFn ba (ae (af 5) (ae (eOp mV (eFn ba (ae (eFn ba ao) ao)) (eFn cU (ae (eOp fIx (af 3) (eK (.int 1))) ao))) ao))))
  (aB (aU 7 (eFn nV (ae (eLv (wA (ae (eOp fIx (af 3) (eK (.int 0))) (ae (af 5) ao)))) ao)))
  (jv (i7 (ae (eK (.int 20)) ao)) (gN 8) (aB (aU 9 (eFn ba (ae (eFn aw (ae (af 1) (ae (eOp fIx (af 3) (eK (.int 0))) ao))) (ae (eFn bO (ae (af 1) ao)) ao))))
  (aB (aU 10 (eFn ba (ae (eFn aw (ae (af 1) (ae (eOp fIx (af 3) (eK (.int 0))) ao))) (ae (eFn bO (ae (af 1) ao)) ao))))
  (aB (pb 11 12 (ae (eFn bL (ae (af 3) (ae (af 6) (ae (af 9) (ae (af 10) ao))))) (ae (eFn bL (ae (af 3) (ae (af 6) (ae (af 10) (ae (af 9) ao))))) ao)))
  (aB (sIf (tOr (o5 (mh (eFn wm (ae (af 11) (ae (eK (.ty "bool")) ao))))) (aR (eOp fv (af 11) (eFn cg (ae (af 7) (ae (af 9) (ae (af 10) ao))))))) (bH (eK (.bl false))) cD)
  (sIf (tOr (aR (eOp fv (af 12) (eFn cg (ae (af 7) (ae (af 10) (ae (af 9) ao)))))) (gz (mh (af 11)) (mh (af 12)))) (bH (eK (.bl false))) cD))))))))))))
  (bH (eK (.bl true)))))
section
variable {P:Program} {w:World} {K:PySem.W.Frag} {mg:Str→Option Value} {base:Heap}
theorem jE {f:Addr} {fd:FuncData} (F:Fun K "_law_drawn" "_law_drawn" dU f fd) (B:Bs P w K mg):FnOk P w K mg base CX0 1 f fd ["_law_script"] (spF K 1 bZ):=
 (bE F ju fun cdv A outer s H E hr=>by (conv=>arg 2;whnf);with_reducible exact (ax (aJ (SFL.ob (bo (aa ai (aa (SFL.ob (sg (by unfold Gl;kernel_rfl) B.list_ lT (aa (kL (sv 0) ig (ie ai)) ah) (ab aj))) (aa ai ah))) (ab (ab (ab aj))))))))
theorem lj {f:Addr} {fd:FuncData} (F:Fun K "_law_load" "_law_load" eS f fd) (B:Bs P w K mg):FnOk P w K mg base CX0 1 f fd ["_law_state"] (spF K 1 cQ):=
 (bE F bJ fun cdv A outer s H E hr=>by (conv=>arg 2;whnf);with_reducible exact (ak (sset 1 bJ.nd (aq hr.units (sv 0) ai))
   (ak (sset 2 bJ.nd (aq hr.units (sv 0) ai))
   (ak (dw (aC aI (sv 2) ai) (gD hr.units (sv 0) ai))
   (ak (sset 3 bJ.nd ai)
   (ak (bI (aO (iS hr.units) (sv 1) (SFL.lv (bo ah aj)) (aF _)) (ax (sset 3 bJ.nd (aq hr.units (sv 1) (aC fJ (sv 2) (aL cy (by unfold Gl;kernel_rfl) B.len_ cB (aa (sv 1) ah)))))) aZ)
   (ax (bI (SW.st (eL (aO mF (sv 2) (aL cy (by unfold Gl;kernel_rfl) B.len_ cB (aa (sv 1) ah)) (aF _)) (dM (aO ug (aL rm (by unfold Gl;kernel_rfl) B.abs_ rE (aa (sv 3) ah)) (aC kX ai ai) (aF _))))) (ax (dw (aL rm (by unfold Gl;kernel_rfl) B.abs_ rE (aa (sv 3) ah)) (gD hr.units (sv 0) ai))) (ak (sset 4 bJ.nd (aC fJ (aC cM (aC aI (aC aI (aC fJ (sv 3) ai) (aC cM (aC cM ai (sv 2)) (sv 2))) ai) ai) ai))
   (ak (sset 4 bJ.nd (aC fJ (aC cM (sv 4) (sv 4)) ai))
   (ax (dw (aC aI (aC fJ (aC aI (aC aI (aC cM (sv 4) ai) (sv 2)) ai) ai) (aC kX ai ai)) (gD hr.units (sv 0) ai)))))))))))))
theorem lg {f:Addr} {fd:FuncData} (F:Fun K "_law_next" "_law_next" eQ f fd) (B:Bs P w K mg) (d__law_load:Df P w K mg base "_law_load" 1 ["_law_state"] 1 cQ):FnOk P w K mg base CX0 2 f fd ["_law_state","_law_many"] (spF K 2 ar):=
 (bE F fY fun cdv A outer s H E hr=>by (conv=>arg 2;whnf);with_reducible exact (ak (bI (aO mF (aq hr.units (sv 0) ai) (sv 1) (aF _)) (ax (fU (ay d__law_load hr (by decide) (aa (sv 0) ah) (ab aj)))) aZ)
   (ak (sset 2 fY.nd (aC fJ (aq hr.units (sv 0) ai) (sv 1)))
   (ak (dw (aC vD (aq hr.units (sv 0) ai) (sv 1)) (gD hr.units (sv 0) ai))
   (ax (aJ (sv 2)))))))
theorem nJ {f:Addr} {fd:FuncData} (F:Fun K "_law_of" "_law_of" gF f fd) (B:Bs P w K mg) (d__law_next:Df P w K mg base "_law_next" 2 ["_law_state","_law_many"] 2 ar):FnOk P w K mg base CX0 3 f fd ["_law_state","_law_some"] (spF K 2 aw):=
 (bE F nB fun cdv A outer s H E hr=>by (conv=>arg 2;whnf);with_reducible exact (ax (aJ (aq hr.units (sv 1) (ay d__law_next hr (by decide) (aa (sv 0) (aa (aL cy (by unfold Gl;kernel_rfl) B.len_ cB (aa (sv 1) ah)) ah)) (ab (ab aj)))))))
theorem jD {f:Addr} {fd:FuncData} (F:Fun K "_law_words" "_law_words" dS f fd) (B:Bs P w K mg) (d__law_of:Df P w K mg base "_law_of" 3 ["_law_state","_law_some"] 2 aw) (d__law_next:Df P w K mg base "_law_next" 2 ["_law_state","_law_many"] 2 ar):FnOk P w K mg base CX0 4 f fd ["_law_state","_law_many"] (spF K 2 bM):=
 (bE F bc fun cdv A outer s H E hr=>by (conv=>arg 2;whnf);with_reducible exact (ak (sset 2 bc.nd au)
   (ak (sset 3 bc.nd au)
   (ak (fB PassesOwn.never rfl (bX (by unfold Gl;kernel_rfl) B.range_ (aa (ay d__law_of hr (by decide) (aa (sv 0) (aa (cK 9 (by kernel_rfl)) ah)) (ab (ab aj))) ah) (hl:=(ab aj))) (sgn 4 bc.nd) (ax (sset 3 bc.nd (aC aI (sv 3) (aq hr.units (sv 2) (ay d__law_next hr (by decide) (aa (sv 0) (aa ai ah)) (ab (ab aj))))))))
   (ak (sset 5 bc.nd (ay d__law_next hr (by decide) (aa (sv 0) (aa (aC aI (aL cy (by unfold Gl;kernel_rfl) B.len_ cB (aa (sv 3) ah)) ai) ah)) (ab (ab aj))))
   (ak (sset 6 bc.nd (ay d__law_next hr (by decide) (aa (sv 0) (aa ai ah)) (ab (ab aj))))
   (ak (sset 7 bc.nd (ay d__law_of hr (by decide) (aa (sv 0) (aa (cK 9 (by kernel_rfl)) ah)) (ab (ab aj))))
   (ax (aJ (fW (N':=["_law_k","_law_at","_law_first","_law_letters","_law_stem","_law_stride"]) (caps:=[none,some 5,some 6,some 2,some 3,some 7]) (bG (by kernel_rfl)) rfl (bX (by unfold Gl;kernel_rfl) B.range_ (aa (sv 1) ah) (hl:=(ab aj))) (fun _ _ _ _ _=>(sgn 0 (by show (["_law_k","_law_at","_law_first","_law_letters","_law_stem","_law_stride"]:List Str).Nodup;decide+kernel))) (fun _ _ _ _ _=>dh) (fun _ _ _ _ _=>(aC aI (aC aI (kL (sv 4) ig (ie (sv 1))) (aq hr.units (sv 3) (aC fJ (aC aI (sv 2) (aC cM (sv 5) (sv 0))) ai))) (kL (sv 4) (ie (sv 1)) ig)))))))))))))
theorem jC {f:Addr} {fd:FuncData} (F:Fun K "_law_world" "_law_world" dR f fd) (B:Bs P w K mg) (d__law_words:Df P w K mg base "_law_words" 4 ["_law_state","_law_many"] 2 bM) (d__law_of:Df P w K mg base "_law_of" 3 ["_law_state","_law_some"] 2 aw) (d__law_next:Df P w K mg base "_law_next" 2 ["_law_state","_law_many"] 2 ar):FnOk P w K mg base CX0 5 f fd ["_law_state","_law_most","_law_odd"] (spF K 3 cC):=
 (bE F bz fun cdv A outer s H E hr=>by (conv=>arg 2;whnf);with_reducible exact (ak (sset 3 bz.nd (ay d__law_words hr (by decide) (aa (sv 0) (aa (ay d__law_of hr (by decide) (aa (sv 0) (aa (cK 9 (by kernel_rfl)) ah)) (ab (ab aj))) ah)) (ab (ab aj))))
   (ak (sset 4 bz.nd (ay d__law_words hr (by decide) (aa (sv 0) (aa (ay d__law_of hr (by decide) (aa (sv 0) (aa (cK 9 (by kernel_rfl)) ah)) (ab (ab aj))) ah)) (ab (ab aj))))
   (ak (sset 5 bz.nd (ay d__law_words hr (by decide) (aa (sv 0) (aa ai ah)) (ab (ab aj))))
   (ak (ff (i:=6) bz.nd (by kernel_rfl) (by kernel_rfl) (N':=["_law_deed","_law_state"]) (caps:=[none,some 0]) (bG (by kernel_rfl)) rfl (eN (sv 4)) (fun _ _ _ _ _=>(sgn 0 (by show (["_law_deed","_law_state"]:List Str).Nodup;decide+kernel))) (fun _ _ _ _ _=>dh) (fun _ _ _ _ _=>(ay d__law_of hr (by decide) (aa (sv 1) (aa (cK 9 (by kernel_rfl)) ah)) (ab (ab aj)))))
   (ak (sset 7 bz.nd (aL rh (by unfold Gl;kernel_rfl) B.sorted_ km (aa (fW (N':=["_law_deed","_law_names","_law_state"]) (caps:=[none,some 3,some 0]) (bG (by kernel_rfl)) rfl (eN (sv 4)) (fun _ _ _ _ _=>(sgn 0 (by show (["_law_deed","_law_names","_law_state"]:List Str).Nodup;decide+kernel))) (fun _ _ _ _ _=>dh) (fun _ _ _ _ _=>(ay d__law_next hr (by decide) (aa (sv 2) (aa (aL cy (by unfold Gl;kernel_rfl) B.len_ cB (aa (sv 1) ah)) ah)) (ab (ab aj))))) ah)))
   (ak (sset 5 bz.nd (fW (N':=["_law_k","_law_params"]) (caps:=[none,some 5]) (bG (by kernel_rfl)) rfl (eN (sv 6)) (fun _ _ _ _ _=>(sgn 0 (by show (["_law_k","_law_params"]:List Str).Nodup;decide+kernel))) (fun _ _ _ _ _=>dh) (fun _ _ _ _ _=>(kL (sv 1) ig (ie (sv 0))))))
   (ax (aJ (qg (fg au (sv 3) (fg au (sv 4) (fg au (sv 5) (fg au (sv 7) (fg au (sv 1) (fg au (sv 2) uF)))))) (by kernel_rfl) (by kernel_rfl) (by simp) fun trs h=>sV h (by kernel_rfl) (by kernel_rfl) (by simp) (by decide)))))))))))
theorem iU {f:Addr} {fd:FuncData} (F:Fun K "_law_is_odd" "_law_is_odd" dA f fd) (B:Bs P w K mg) (d__law_next:Df P w K mg base "_law_next" 2 ["_law_state","_law_many"] 2 ar):FnOk P w K mg base CX0 3 f fd ["_law_state","_law_world_here"] (spF K 2 bg):=
 (bE F iD fun cdv A outer s H E hr=>by (conv=>arg 2;whnf);with_reducible exact (ax (aJ (qj (dP eC (aq hr.units (sv 1) au) ai (aF _)) (qf (dP (bK hr.units) (ay d__law_next hr (by decide) (aa (sv 0) (aa (aq hr.units (sv 1) au) ah)) (ab (ab aj))) ai (aF _)))))))
theorem kZ {f:Addr} {fd:FuncData} (F:Fun K "_law_term" "_law_term" eP f fd) (B:Bs P w K mg) (d__law_next:Df P w K mg base "_law_next" 2 ["_law_state","_law_many"] 2 ar) (d__law_of:Df P w K mg base "_law_of" 3 ["_law_state","_law_some"] 2 aw):FnOk P w K mg base CX0 4 f fd ["_law_state","_law_params"] (spF K 2 aT):=
 (bE F fX fun cdv A outer s H E hr=>by (conv=>arg 2;whnf);with_reducible exact (ak (sset 2 fX.nd (aC fI (ay d__law_next hr (by decide) (aa (sv 0) (aa ai ah)) (ab (ab aj))) ai))
   (ak (bI (SW.st (eL (aO eC (aL cy (by unfold Gl;kernel_rfl) B.len_ cB (aa (sv 1) ah)) ai (aF _)) (dM (aO eC (ay d__law_next hr (by decide) (aa (sv 0) (aa ai ah)) (ab (ab aj))) ai (aF _))))) (ax (aJ (aE (aa (ay d__law_of hr (by decide) (aa (sv 0) (aa (sv 1) ah)) (ab (ab aj))) (aa (ay d__law_of hr (by decide) (aa (sv 0) (aa (SFL.lv (bo (aa ai (aa ai (aa ai (aa ai (aa ai (aa ai (aa (fV dJ ai) (aa ai (aa (sv 2) ah))))))))) (ab (ab (ab (ab (ab (ab (ab (ab (ab aj))))))))))) ah)) (ab (ab aj))) ah)) (ab (ab aj))))) aZ)
   (ax (aJ (aE (aa au (aa (ay d__law_of hr (by decide) (aa (sv 0) (aa (SFL.lv (bo (aa ai (aa ai (aa ai (aa ai (aa ai (aa ai (aa (fV dJ ai) (aa (sv 2) ah)))))))) (ab (ab (ab (ab (ab (ab (ab (ab aj)))))))))) ah)) (ab (ab aj))) ah)) (ab (ab aj))))))))
theorem lr {f:Addr} {fd:FuncData} (F:Fun K "_law_call" "_law_call" eT f fd) (B:Bs P w K mg) (d__law_is_odd:Df P w K mg base "_law_is_odd" 3 ["_law_state","_law_world_here"] 2 bg) (d__law_of:Df P w K mg base "_law_of" 3 ["_law_state","_law_some"] 2 aw) (d__law_term:Df P w K mg base "_law_term" 4 ["_law_state","_law_params"] 2 aT):FnOk P w K mg base CX0 5 f fd ["_law_state","_law_world_here","_law_deed","_law_top"] (spF K 4 cR):=
 (bE F cv fun cdv A outer s H E hr=>by (conv=>arg 2;whnf);with_reducible exact (ak (ff (i:=4) cv.nd (by kernel_rfl) (by kernel_rfl) (N':=["_law_k","_law_deed","_law_top","_law_world_here"]) (caps:=[none,some 2,some 3,some 1]) (bG (by kernel_rfl)) rfl (bX (by unfold Gl;kernel_rfl) B.range_ (aa (aL cy (by unfold Gl;kernel_rfl) B.len_ cB (aa (aq hr.units (sv 1) au) ah)) ah) (hl:=(ab aj))) (fun _ _ _ _ _=>(sgn 0 (by show (["_law_k","_law_deed","_law_top","_law_world_here"]:List Str).Nodup;decide+kernel))) (fun _ _ _ _ _=>(kK (SW.st (eL (aO eC (aq hr.units (aq hr.units (sv 3) au) (sv 0)) (sv 2) (aF _)) (dM (aO ug (sv 0) (sv 1) (aF _))))))) (fun _ _ _ _ _=>(sv 0)))
   (ak (bI (gB (ay d__law_is_odd hr (by decide) (aa (sv 0) (aa (sv 1) ah)) (ab (ab aj)))) (ax (sset 4 cv.nd (SFL.lv (o8 rfl (by unfold Gl;kernel_rfl) B.list_ (by unfold Gl;kernel_rfl) B.range_ lT (aa (aL cy (by unfold Gl;kernel_rfl) B.len_ cB (aa (aq hr.units (sv 1) au) ah)) ah))))) aZ)
   (ak (bI (aO (bK hr.units) (sv 4) (SFL.lv (bo ah aj)) (aF _)) (ax (aJ (aE (aa au (aa (aq hr.units (aq hr.units (sv 1) au) (sv 2)) ah)) (ab (ab aj))))) aZ)
   (ak (sset 5 cv.nd (ay d__law_of hr (by decide) (aa (sv 0) (aa (sv 4) ah)) (ab (ab aj))))
   (ak (ff (i:=6) cv.nd (by kernel_rfl) (by kernel_rfl) (N':=["_law_one","_law_deed","_law_state","_law_world_here"]) (caps:=[none,some 2,some 0,some 1]) (bG (by kernel_rfl)) rfl (eN (aq hr.units (aq hr.units (sv 1) au) (sv 5))) (fun _ _ _ _ _=>(sgn 0 (by show (["_law_one","_law_deed","_law_state","_law_world_here"]:List Str).Nodup;decide+kernel))) (fun _ _ _ _ _=>dh) (fun _ _ _ _ _=>(ay d__law_term hr (by decide) (aa (sv 2) (aa (aq hr.units (aq hr.units (sv 3) au) (sv 1)) ah)) (ab (ab aj)))))
   (ax (aJ (aE (aa au (aa (aq hr.units (aq hr.units (sv 1) au) (sv 5)) (aa (bD cx (by unfold Gl;kernel_rfl) B.tuple_ cA (aa (sv 6) ah)) ah))) (ab (ab (ab aj))))))))))))
theorem lh {f:Addr} {fd:FuncData} (F:Fun K "_law_lock" "_law_lock" eR f fd) (B:Bs P w K mg) (d__law_next:Df P w K mg base "_law_next" 2 ["_law_state","_law_many"] 2 ar) (d__law_is_odd:Df P w K mg base "_law_is_odd" 3 ["_law_state","_law_world_here"] 2 bg) (d__law_term:Df P w K mg base "_law_term" 4 ["_law_state","_law_params"] 2 aT):FnOk P w K mg base CX0 5 f fd ["_law_state","_law_world_here","_law_deed","_law_top","_law_held"] (spF K 5 cm):=
 (bE F bw fun cdv A outer s H E hr=>by (conv=>arg 2;whnf);with_reducible exact (ak (sset 5 bw.nd (aL (je rfl) (by unfold Gl;kernel_rfl) B.max_ jm (aa (sv 3) (aa (aq hr.units (aq hr.units (sv 1) au) (sv 2)) ah))))
   (ak (bI (aO (bK hr.units) (sv 5) (aL cy (by unfold Gl;kernel_rfl) B.len_ cB (aa (aq hr.units (sv 1) au) ah)) (aF _)) (ax (aJ (aE (aa kM (aa kM ah)) (ab (ab aj))))) aZ)
   (ak (sset 6 bw.nd (aC aI (sv 5) (ay d__law_next hr (by decide) (aa (sv 0) (aa (aC fI (aL cy (by unfold Gl;kernel_rfl) B.len_ cB (aa (aq hr.units (sv 1) au) ah)) (sv 5)) ah)) (ab (ab aj)))))
   (ak (bI (gB (ay d__law_is_odd hr (by decide) (aa (sv 0) (aa (sv 1) ah)) (ab (ab aj)))) (ax (sset 6 bw.nd (ay d__law_next hr (by decide) (aa (sv 0) (aa (aL cy (by unfold Gl;kernel_rfl) B.len_ cB (aa (aq hr.units (sv 1) au) ah)) ah)) (ab (ab aj))))) aZ)
   (ak (sset 7 bw.nd (aq hr.units (aq hr.units (sv 1) au) (sv 6)))
   (ak (ff (i:=8) bw.nd (by kernel_rfl) (by kernel_rfl) (N':=["_law_lock_here","_law_name"]) (caps:=[none,some 7]) (bG (by kernel_rfl)) rfl (eN (sv 4)) (fun _ _ _ _ _=>(sgn 0 (by show (["_law_lock_here","_law_name"]:List Str).Nodup;decide+kernel))) (fun _ _ _ _ _=>(kK (aO (bK hr.units) (aq hr.units (sv 0) ai) (sv 1) (aF _)))) (fun _ _ _ _ _=>(aq hr.units (sv 0) ai)))
   (ak (bI (SW.st (eL (aO (iS hr.units) (sv 8) (SFL.lv (bo ah aj)) (aF _)) (dM (qa (gB (ay d__law_is_odd hr (by decide) (aa (sv 0) (aa (sv 1) ah)) (ab (ab aj)))))))) (ak (dw (aq hr.units (sv 8) (fV dJ ai)) (gC rfl (bN (sgn 9 bw.nd) (bN (sgn 10 bw.nd) fh))))
   (ax (aJ (aE (aa (sv 6) (aa (aE (aa (sv 7) (aa (aE (aa (sv 9) (aa (aL (wt rfl) (by unfold Gl;kernel_rfl) B.min_ wy (aa ai (aa (aC aI (aC aI (sv 10) ai) (ay d__law_next hr (by decide) (aa (sv 0) (aa ai ah)) (ab (ab aj)))) ah))) ah)) (ab (ab aj))) ah)) (ab (ab aj))) ah)) (ab (ab aj)))))) aZ)
   (ax (aJ (aE (aa (sv 6) (aa (aE (aa (sv 7) (aa (ay d__law_term hr (by decide) (aa (sv 0) (aa (aq hr.units (aq hr.units (sv 1) au) (sv 2)) ah)) (ab (ab aj))) ah)) (ab (ab aj))) ah)) (ab (ab aj)))))))))))))
theorem oM {f1:Addr} {fd1:FuncData} (F1:Fun K "_law_lot" "_law_lot" fD f1 fd1) (kf1:PySem.W.keepIn K (.ref f1)=true) (bf1:Binds K fd1 ["_law_state","_law_world_here","_law_deed","_law_deep","_law_top","_law_held","_law_most"] []) (mf1:mg "_law_lot"=some (.ref f1)) {f2:Addr} {fd2:FuncData} (F2:Fun K "_law_row" "_law_row" fC f2 fd2) (kf2:PySem.W.keepIn K (.ref f2)=true) (bf2:Binds K fd2 ["_law_state","_law_world_here","_law_deed","_law_deep","_law_top","_law_held"] []) (mf2:mg "_law_row"=some (.ref f2)) {f3:Addr} {fd3:FuncData} (F3:Fun K "_law_locked" "_law_locked" dz f3 fd3) (kf3:PySem.W.keepIn K (.ref f3)=true) (bf3:Binds K fd3 ["_law_state","_law_world_here","_law_deed","_law_deep","_law_top","_law_held","_law_way"] []) (mf3:mg "_law_locked"=some (.ref f3)) {f4:Addr} {fd4:FuncData} (F4:Fun K "_law_two_ways" "_law_two_ways" cT f4 fd4) (kf4:PySem.W.keepIn K (.ref f4)=true) (bf4:Binds K fd4 ["_law_state","_law_world_here","_law_deed","_law_deep","_law_top","_law_held"] []) (mf4:mg "_law_two_ways"=some (.ref f4)) (B:Bs P w K mg) (d__law_next:Df P w K mg base "_law_next" 2 ["_law_state","_law_many"] 2 ar) (d__law_of:Df P w K mg base "_law_of" 3 ["_law_state","_law_some"] 2 aw) (d__law_call:Df P w K mg base "_law_call" 5 ["_law_state","_law_world_here","_law_deed","_law_top"] 4 cR) (d__law_term:Df P w K mg base "_law_term" 4 ["_law_state","_law_params"] 2 aT) (d__law_lock:Df P w K mg base "_law_lock" 5 ["_law_state","_law_world_here","_law_deed","_law_top","_law_held"] 5 cm):∀n,FnOk P w K mg base CX0 (6+n) f1 fd1 ["_law_state","_law_world_here","_law_deed","_law_deep","_law_top","_law_held","_law_most"] (spF K 7 (aS n))∧FnOk P w K mg base CX0 (6+n) f2 fd2 ["_law_state","_law_world_here","_law_deed","_law_deep","_law_top","_law_held"] (spF K 6 (cJ n))∧FnOk P w K mg base CX0 (6+n) f3 fd3 ["_law_state","_law_world_here","_law_deed","_law_deep","_law_top","_law_held","_law_way"] (spF K 7 (bP n))∧FnOk P w K mg base CX0 (6+n) f4 fd4 ["_law_state","_law_world_here","_law_deed","_law_deep","_law_top","_law_held"] (spF K 6 (bu n))
 | 0=>⟨ip,ip,ip,ip⟩
 | n+1=>by
  obtain ⟨i1,i2,i3,i4⟩:=oM F1 kf1 bf1 mf1 F2 kf2 bf2 mf2 F3 kf3 bf3 mf3 F4 kf4 bf4 mf4 B d__law_next d__law_of d__law_call d__law_term d__law_lock n
  have d__law_lot:Df P w K mg base "_law_lot" (6+n) ["_law_state","_law_world_here","_law_deed","_law_deep","_law_top","_law_held","_law_most"] 7 (aS n):=⟨f1,fd1,i1,kf1,bf1,mf1⟩
  have d__law_row:Df P w K mg base "_law_row" (6+n) ["_law_state","_law_world_here","_law_deed","_law_deep","_law_top","_law_held"] 6 (cJ n):=⟨f2,fd2,i2,kf2,bf2,mf2⟩
  have d__law_locked:Df P w K mg base "_law_locked" (6+n) ["_law_state","_law_world_here","_law_deed","_law_deep","_law_top","_law_held","_law_way"] 7 (bP n):=⟨f3,fd3,i3,kf3,bf3,mf3⟩
  have d__law_two_ways:Df P w K mg base "_law_two_ways" (6+n) ["_law_state","_law_world_here","_law_deed","_law_deep","_law_top","_law_held"] 6 (bu n):=⟨f4,fd4,i4,kf4,bf4,mf4⟩
  refine ⟨?_,?_,?_,?_⟩
  ·exact gj (bE F1 eO fun cdv A outer s H E hr=>by (conv=>arg 2;whnf);with_reducible exact (ak (sset 7 eO.nd (SFL.ob (bo ah aj)))
   (ak (fB PassesOwn.never rfl (bX (by unfold Gl;kernel_rfl) B.range_ (aa (ay d__law_next hr (Nat.le_trans (by decide) (Nat.le_add_right _ _)) (aa (sv 0) (aa (aC aI (ay d__law_of hr (Nat.le_trans (by decide) (Nat.le_add_right _ _)) (aa (sv 0) (aa (aC aI (aC qF (SFL.lv (bo (aa (sv 6) ah) (ab aj))) ai) (SFL.lv (bo (aa ai ah) (ab aj)))) ah)) (ab (ab aj))) ai) ah)) (ab (ab aj))) ah) (hl:=(ab aj))) (sgn 8 eO.nd) (ax (bI (aO eC (aq hr.units (sv 1) au) ai (aF _)) (ak (dw (aC fI (aq hr.units (sv 1) au) ai) (gD hr.units (sv 1) au))
   (ax (fU (sh (isT:=fb) kF PySem.F.plainAttrs_list PySem.F.slot_list_append PySem.F.type_list_append fk (sv 7) (aa (ay d__law_row hr (Nat.le_refl _) (aa (sv 0) (aa (sv 1) (aa (sv 2) (aa (sv 3) (aa (sv 4) (aa (sv 5) ah)))))) (ab (ab (ab (ab (ab (ab aj))))))) ah))))) aZ)))
   (ax (aJ (bD cx (by unfold Gl;kernel_rfl) B.tuple_ cA (aa (sv 7) ah)))))))
  ·exact (bE F2 bT fun cdv A outer s H E hr=>by (conv=>arg 2;whnf);with_reducible exact (ak (sset 6 bT.nd (ay d__law_next hr (Nat.le_trans (by decide) (Nat.le_add_right _ _)) (aa (sv 0) (aa ai ah)) (ab (ab aj))))
   (ak (bI (SW.st (mj (aO mF (sv 6) ai (aF _)) (iy (SW.st (eL (aO (bK hr.units) (sv 3) ai (aF _)) (dM (aO mF (sv 6) ai (aF _)))))))) (ax (aJ (aE (aa au (aa (ay d__law_of hr (Nat.le_trans (by decide) (Nat.le_add_right _ _)) (aa (sv 0) (aa (aC aI (aq hr.units (sv 1) au) (aq hr.units (sv 1) au)) ah)) (ab (ab aj))) ah)) (ab (ab aj))))) aZ)
   (ak (bI (SW.st (mj (aO eC (sv 6) ai (aF _)) (iy (aO (bK hr.units) (sv 3) ai (aF _))))) (ax (aJ (ay d__law_call hr (Nat.le_trans (by decide) (Nat.le_add_right _ _)) (aa (sv 0) (aa (sv 1) (aa (sv 2) (aa (sv 4) ah)))) (ab (ab (ab (ab aj))))))) aZ)
   (ak (bI (SW.st (eL (aO (bK hr.units) (sv 6) ai (aF _)) (eL (aO mF (sv 3) ai (aF _)) (dM (aO eC (aq hr.units (sv 1) au) ai (aF _)))))) (ax (aJ (ay d__law_two_ways hr (Nat.le_refl _) (aa (sv 0) (aa (sv 1) (aa (sv 2) (aa (sv 3) (aa (sv 4) (aa (sv 5) ah)))))) (ab (ab (ab (ab (ab (ab aj))))))))) aZ)
   (ak (bI (SW.st (mj (aO (bK hr.units) (sv 6) ai (aF _)) (iy (aO (bK hr.units) (sv 6) ai (aF _))))) (ak (rY 7 8 bT.nd (ab (ab aj)) rfl (by decide) (by with_unfolding_all exact (kU rfl bT.nd rfl rfl (by decide) rfl rfl (aa (ay d__law_term hr (Nat.le_trans (by decide) (Nat.le_add_right _ _)) (aa (sv 0) (aa (aq hr.units (aq hr.units (sv 1) au) (sv 2)) ah)) (ab (ab aj))) (aa (ay d__law_term hr (Nat.le_trans (by decide) (Nat.le_add_right _ _)) (aa (sv 0) (aa (aq hr.units (aq hr.units (sv 1) au) (sv 2)) ah)) (ab (ab aj))) ah)) rfl)))
   (ak (ff (i:=9) bT.nd (by kernel_rfl) (by kernel_rfl) (N':=["_law_k","_law_deed","_law_deep","_law_held","_law_state","_law_top","_law_world_here"]) (caps:=[none,some 2,some 3,some 5,some 0,some 4,some 1]) (bG (by kernel_rfl)) rfl (bX (by unfold Gl;kernel_rfl) B.range_ (aa ai ah) (hl:=(ab aj))) (fun _ _ _ _ _=>(sgn 0 (by show (["_law_k","_law_deed","_law_deep","_law_held","_law_state","_law_top","_law_world_here"]:List Str).Nodup;decide+kernel))) (fun _ _ _ _ _=>dh) (fun _ _ _ _ _=>(ay d__law_lot hr (Nat.le_refl _) (aa (sv 4) (aa (sv 6) (aa (sv 1) (aa (aC aI (sv 2) ai) (aa (sv 5) (aa (sv 3) (aa ai ah))))))) (ab (ab (ab (ab (ab (ab (ab aj))))))))))
   (ax (aJ (aC aI (aE (aa au (aa (sv 7) (aa (sv 8) ah))) (ab (ab (ab aj)))) (bD cx (by unfold Gl;kernel_rfl) B.tuple_ cA (aa (sv 9) ah))))))) aZ)
   (ak (bI (aO (bK hr.units) (sv 6) ai (aF _)) (ak (ff (i:=9) bT.nd (by kernel_rfl) (by kernel_rfl) (N':=["_law_k","_law_deed","_law_deep","_law_held","_law_state","_law_top","_law_world_here"]) (caps:=[none,some 2,some 3,some 5,some 0,some 4,some 1]) (bG (by kernel_rfl)) rfl (bX (by unfold Gl;kernel_rfl) B.range_ (aa ai ah) (hl:=(ab aj))) (fun _ _ _ _ _=>(sgn 0 (by show (["_law_k","_law_deed","_law_deep","_law_held","_law_state","_law_top","_law_world_here"]:List Str).Nodup;decide+kernel))) (fun _ _ _ _ _=>dh) (fun _ _ _ _ _=>(ay d__law_lot hr (Nat.le_refl _) (aa (sv 4) (aa (sv 6) (aa (sv 1) (aa (aC aI (sv 2) ai) (aa (sv 5) (aa (sv 3) (aa ai ah))))))) (ab (ab (ab (ab (ab (ab (ab aj))))))))))
   (ax (aJ (aC aI (aE (aa au ah) (ab aj)) (bD cx (by unfold Gl;kernel_rfl) B.tuple_ cA (aa (sv 9) ah)))))) aZ)
   (ak (bI (aO (bK hr.units) (sv 6) ai (aF _)) (ax (aJ (aE (aa au (aa (ay d__law_lot hr (Nat.le_refl _) (aa (sv 0) (aa (sv 1) (aa (sv 2) (aa (aC aI (sv 3) ai) (aa (sv 4) (aa (sv 5) (aa ai ah))))))) (ab (ab (ab (ab (ab (ab (ab aj)))))))) ah)) (ab (ab aj))))) aZ)
   (ak (sset 10 bT.nd (ay d__law_of hr (Nat.le_trans (by decide) (Nat.le_add_right _ _)) (aa (sv 0) (aa (cK 9 (by kernel_rfl)) ah)) (ab (ab aj))))
   (ax (aJ (ay d__law_locked hr (Nat.le_refl _) (aa (sv 0) (aa (sv 1) (aa (sv 2) (aa (sv 3) (aa (sv 4) (aa (sv 5) (aa (sv 10) ah))))))) (ab (ab (ab (ab (ab (ab (ab aj)))))))))))))))))))
  ·exact gj (bE F3 aM fun cdv A outer s H E hr=>by (conv=>arg 2;whnf);with_reducible exact (ak (dw (ay d__law_lock hr (Nat.le_trans (by decide) (Nat.le_add_right _ _)) (aa (sv 0) (aa (sv 1) (aa (sv 2) (aa (sv 4) (aa (sv 5) ah))))) (ab (ab (ab (ab (ab aj)))))) (gC rfl (bN (sgn 7 aM.nd) (bN (sgn 8 aM.nd) fh))))
   (ak (bI (aO vC (sv 7) kM (aF _)) (ax (aJ (aE (aa au (aa (aq hr.units (aq hr.units (sv 1) au) (sv 2)) ah)) (ab (ab aj))))) aZ)
   (ak (bI (aO (bK hr.units) (sv 6) au (aF _)) (ak (rY 9 10 aM.nd (ab (ab aj)) rfl (by decide) (by with_unfolding_all exact (kU rfl aM.nd rfl rfl (by decide) rfl rfl (aa (SFL.ob (bo (aa (sv 8) ah) (ab aj))) (aa (sv 7) ah)) rfl)))
   (ak (fB PassesOwn.never rfl (bX (by unfold Gl;kernel_rfl) B.range_ (aa (ay d__law_of hr (Nat.le_trans (by decide) (Nat.le_add_right _ _)) (aa (sv 0) (aa (cK 9 (by kernel_rfl)) ah)) (ab (ab aj))) ah) (hl:=(ab aj))) (sgn 11 aM.nd) (ak (dw (ay d__law_lock hr (Nat.le_trans (by decide) (Nat.le_add_right _ _)) (aa (sv 0) (aa (sv 1) (aa (sv 2) (aa (sv 4) (aa (sv 5) ah))))) (ab (ab (ab (ab (ab aj)))))) (gC rfl (bN (sgn 12 aM.nd) (bN (sgn 13 aM.nd) fh))))
   (ak (sset 10 aM.nd (aL (je rfl) (by unfold Gl;kernel_rfl) B.max_ jm (aa (sv 10) (aa (sv 12) ah))))
   (ax (sset 9 aM.nd (SFL.ob (uI (sv 9) (aC qF (SFL.lv (bo (aa (sv 13) ah) (ab aj))) (bD oh (by unfold Gl;kernel_rfl) B.int_ oq (aa (dP (qG hr.units) (sv 13) (sv 9) (by kernel_rfl)) ah))))))))))
   (ak (bI (aO (bK hr.units) (aL cy (by unfold Gl;kernel_rfl) B.len_ cB (aa (sv 9) ah)) ai (aF _)) (ax (fU (sh (isT:=fb) kF PySem.F.plainAttrs_list PySem.F.slot_list_append PySem.F.type_list_append fk (sv 9) (aa (aE (aa (aq hr.units (sv 8) ai) (aa (aE (aa (aq hr.units (aq hr.units (sv 8) ai) ai) (aa (aC fI (aC aI (aq hr.units (aq hr.units (sv 8) ai) ai) ai) (aC cM ai (bD oh (by unfold Gl;kernel_rfl) B.int_ oq (aa (dP eC (aq hr.units (aq hr.units (sv 8) ai) ai) ai (aF _)) ah)))) ah)) (ab (ab aj))) ah)) (ab (ab aj))) ah)))) aZ)
   (ak (sset 10 aM.nd (aC aI (sv 10) (bD oh (by unfold Gl;kernel_rfl) B.int_ oq (aa (dP (bK hr.units) (aq hr.units (sv 1) au) ai (aF _)) ah))))
   (ax (aJ (aE (aa au (aa (bD cx (by unfold Gl;kernel_rfl) B.tuple_ cA (aa (sv 9) ah)) (aa (ay d__law_lot hr (Nat.le_refl _) (aa (sv 0) (aa (sv 1) (aa (sv 2) (aa (aC aI (sv 3) ai) (aa (aL (je rfl) (by unfold Gl;kernel_rfl) B.max_ jm (aa (sv 4) (aa (sv 10) ah))) (aa (aC aI (sv 5) (sv 9)) (aa ai ah))))))) (ab (ab (ab (ab (ab (ab (ab aj)))))))) ah))) (ab (ab (ab aj)))))))))) aZ)
   (ak (sset 14 aM.nd (ay d__law_lot hr (Nat.le_refl _) (aa (sv 0) (aa (sv 1) (aa (sv 2) (aa (aC aI (sv 3) ai) (aa (aL (je rfl) (by unfold Gl;kernel_rfl) B.max_ jm (aa (sv 4) (aa (sv 7) ah))) (aa (aC aI (sv 5) (SFL.lv (bo (aa (sv 8) ah) (ab aj)))) (aa ai ah))))))) (ab (ab (ab (ab (ab (ab (ab aj)))))))))
   (ak (bI (aO (bK hr.units) (sv 6) au (aF _)) (ax (aJ (aE (aa au (aa (sv 8) (aa (sv 14) (aa (ay d__law_lot hr (Nat.le_refl _) (aa (sv 0) (aa (sv 1) (aa (sv 2) (aa (aC aI (sv 3) ai) (aa (sv 4) (aa (sv 5) (aa ai ah))))))) (ab (ab (ab (ab (ab (ab (ab aj)))))))) ah)))) (ab (ab (ab (ab aj))))))) aZ)
   (ax (aJ (aE (aa au (aa (sv 8) (aa (sv 14) ah))) (ab (ab (ab aj))))))))))))
  ·exact gj (bE F4 aQ fun cdv A outer s H E hr=>by (conv=>arg 2;whnf);with_reducible exact (ak (sset 6 aQ.nd (aL (je rfl) (by unfold Gl;kernel_rfl) B.max_ jm (aa (sv 4) (aa (aq hr.units (aq hr.units (sv 1) au) (sv 2)) ah))))
   (ak (bI (aO (bK hr.units) (sv 6) (aL cy (by unfold Gl;kernel_rfl) B.len_ cB (aa (aq hr.units (sv 1) au) ah)) (aF _)) (ax (aJ (aE (aa au (aa (aq hr.units (aq hr.units (sv 1) au) (sv 2)) ah)) (ab (ab aj))))) aZ)
   (ak (bI (aO (iS hr.units) (fW (N':=["_law_lock_here","_law_low","_law_world_here"]) (caps:=[none,some 6,some 1]) (bG (by kernel_rfl)) rfl (eN (sv 5)) (fun _ _ _ _ _=>(sgn 0 (by show (["_law_lock_here","_law_low","_law_world_here"]:List Str).Nodup;decide+kernel))) (fun _ _ _ _ _=>(kK (aO (bK hr.units) (aq hr.units (sv 0) ai) (aq hr.units (aq hr.units (sv 2) au) (sv 1)) (aF _)))) (fun _ _ _ _ _=>(sv 0))) (SFL.lv (bo ah aj)) (aF _)) (ax (aJ (aE (aa au (aa (aq hr.units (aq hr.units (sv 1) au) (sv 2)) ah)) (ab (ab aj))))) aZ)
   (ak (sset 7 aQ.nd (aq hr.units (aq hr.units (sv 1) au) (sv 6)))
   (ak (dw (aC fI (aq hr.units (sv 1) au) ai) (gD hr.units (sv 1) au))
   (ak (rY 8 9 aQ.nd (ab (ab aj)) rfl (by decide) (by with_unfolding_all exact (kU rfl aQ.nd rfl rfl (by decide) rfl rfl (aa (ay d__law_term hr (Nat.le_trans (by decide) (Nat.le_add_right _ _)) (aa (sv 0) (aa (aq hr.units (aq hr.units (sv 1) au) (sv 2)) ah)) (ab (ab aj))) (aa (ay d__law_term hr (Nat.le_trans (by decide) (Nat.le_add_right _ _)) (aa (sv 0) (aa (aq hr.units (aq hr.units (sv 1) au) (sv 2)) ah)) (ab (ab aj))) ah)) rfl)))
   (ak (sset 10 aQ.nd (SFL.ob (bo ah aj)))
   (ak (fB PassesOwn.never rfl (eN (SFL.lv (bo (aa (aE (aa (sv 8) (aa (sv 9) ah)) (ab (ab aj))) (aa (aE (aa (sv 9) (aa (sv 8) ah)) (ab (ab aj))) ah)) (ab (ab aj))))) (gC rfl (bN (sgn 11 aQ.nd) (bN (sgn 12 aQ.nd) fh))) (ak (sset 13 aQ.nd (ay d__law_lot hr (Nat.le_refl _) (aa (sv 0) (aa (sv 1) (aa (sv 2) (aa (aC aI (sv 3) ai) (aa (sv 6) (aa (aC aI (sv 5) (SFL.lv (bo (aa (aE (aa (sv 7) (aa (sv 11) ah)) (ab (ab aj))) (aa (aE (aa (sv 7) (aa (sv 12) ah)) (ab (ab aj))) ah)) (ab (ab aj))))) (aa ai ah))))))) (ab (ab (ab (ab (ab (ab (ab aj)))))))))
   (ax (fU (sh (isT:=fb) kF PySem.F.plainAttrs_list PySem.F.slot_list_append PySem.F.type_list_append fk (sv 10) (aa (aE (aa (aE (aa au (aa (aE (aa (sv 7) (aa (sv 11) ah)) (ab (ab aj))) (aa (aE (aa (aE (aa au (aa (aE (aa (sv 7) (aa (sv 12) ah)) (ab (ab aj))) (aa (sv 13) ah))) (ab (ab (ab aj)))) ah) (ab aj)) ah))) (ab (ab (ab aj)))) ah) (ab aj)) ah))))))
   (ax (aJ (aE (aa au (aa (sv 8) (aa (sv 9) (aa (aq hr.units (sv 10) ai) (aa (aE (aa (aE (aa au (aa (aE (aa (sv 7) (aa (sv 8) ah)) (ab (ab aj))) (aa (aE ah aj) ah))) (ab (ab (ab aj)))) ah) (ab aj)) (aa (aq hr.units (sv 10) ai) ah)))))) (ab (ab (ab (ab (ab (ab aj))))))))))))))))))
theorem hY {f:Addr} {fd:FuncData} (F:Fun K "_law_program" "_law_program" c6 f fd) (B:Bs P w K mg) (d__law_world:Df P w K mg base "_law_world" 5 ["_law_state","_law_most","_law_odd"] 3 cC) (d__law_lot:Df P w K mg base "_law_lot" 26 ["_law_state","_law_world_here","_law_deed","_law_deep","_law_top","_law_held","_law_most"] 7 (aS 20)) (d__law_of:Df P w K mg base "_law_of" 3 ["_law_state","_law_some"] 2 aw):FnOk P w K mg base CX0 27 f fd ["_law_state","_law_most","_law_odd"] (spF K 3 bV):=
 gj (bE F bq fun cdv A outer s H E hr=>by (conv=>arg 2;whnf);with_reducible exact (ak (sset 3 bq.nd (ay d__law_world hr (by decide) (aa (sv 0) (aa (sv 1) (aa (sv 2) ah))) (ab (ab (ab aj)))))
   (ak (sset 4 bq.nd (SFL.ob (bo ah aj)))
   (ak (fB PassesOwn.never rfl (r8 (by unfold Gl;kernel_rfl) B.enumerate_ (aa (aq hr.units (sv 3) au) ah) (ab aj)) (gC rfl (bN (sgn 5 bq.nd) (bN (sgn 6 bq.nd) fh))) (ak (sset 7 bq.nd (ay d__law_lot hr (by decide) (aa (sv 0) (aa (sv 3) (aa (sv 5) (aa ai (aa (fV dJ ai) (aa (SFL.lv (bo ah aj)) (aa (ay d__law_of hr (by decide) (aa (sv 0) (aa (cK 9 (by kernel_rfl)) ah)) (ab (ab aj))) ah))))))) (ab (ab (ab (ab (ab (ab (ab aj)))))))))
   (ax (fU (sh (isT:=fb) kF PySem.F.plainAttrs_list PySem.F.slot_list_append PySem.F.type_list_append fk (sv 4) (aa (aE (aa (sv 6) (aa (bD cx (by unfold Gl;kernel_rfl) B.tuple_ cA (aa (aq hr.units (aq hr.units (sv 3) au) (sv 5)) ah)) (aa (sv 7) ah))) (ab (ab (ab aj)))) ah))))))
   (ax (aJ (aE (aa (bD cx (by unfold Gl;kernel_rfl) B.tuple_ cA (aa (aL rg (by unfold Gl;kernel_rfl) B.sorted_ km (aa (aq hr.units (sv 3) au) ah)) ah)) (aa (bD cx (by unfold Gl;kernel_rfl) B.tuple_ cA (aa (sv 4) ah)) ah)) (ab (ab aj)))))))))
theorem iT {f:Addr} {fd:FuncData} (F:Fun K "_law_number" "_law_number" dy f fd) (B:Bs P w K mg) (d__law_of:Df P w K mg base "_law_of" 3 ["_law_state","_law_some"] 2 aw) (d__law_next:Df P w K mg base "_law_next" 2 ["_law_state","_law_many"] 2 ar):FnOk P w K mg base CX0 4 f fd ["_law_state"] (spF K 1 bO):=
 (bE F iC fun cdv A outer s H E hr=>by (conv=>arg 2;whnf);with_reducible exact (ax (aJ (ay d__law_of hr (by decide) (aa (sv 0) (aa (SFL.lv (bo (aa ai (aa ai (aa (fV dJ ai) (aa ai (aa ai (aa (fV dJ ai) (aa (aC kX ai ai) (aa (fV dJ (aC kX ai ai)) (aa (aC fI (ay d__law_next hr (by decide) (aa (sv 0) (aa ai ah)) (ab (ab aj))) ai) ah))))))))) (ab (ab (ab (ab (ab (ab (ab (ab (ab aj))))))))))) ah)) (ab (ab aj))))))
theorem gJ {f:Addr} {fd:FuncData} (F:Fun K "ranks_by_name" "ranks_by_name" cS f fd) (B:Bs P w K mg):FnOk P w K mg base CX0 1 f fd ["program","paper"] (spF K 2 bt):=
 (bE F gE fun cdv A outer s H E hr=>by (conv=>arg 2;whnf);with_reducible exact (ax (aJ (qh rfl (by unfold Gl;kernel_rfl) B.dict_ oV (by unfold Gl;kernel_rfl) B.zip_ (aa (aq hr.units (sv 0) ai) (aa (aq hr.units (sv 1) ai) ah)) (ab (ab aj))))))
theorem jB {f:Addr} {fd:FuncData} (F:Fun K "is_further" "is_further" dQ f fd) (B:Bs P w K mg) (d_ranks_by_name:Df P w K mg base "ranks_by_name" 1 ["program","paper"] 2 bt):FnOk P w K mg base CX0 2 f fd ["program","paper","one","other"] (spF K 4 bL):=
 (bE F cL fun cdv A outer s H E hr=>by (conv=>arg 2;whnf);with_reducible exact (ak (sset 4 cL.nd (ay d_ranks_by_name hr (by decide) (aa (sv 0) (aa (sv 1) ah)) (ab (ab aj))))
   (ak (dw (aq hr.units (sv 4) (aq hr.units (sv 2) ai)) (gC rfl (bN (sgn 5 cL.nd) (bN (sgn 6 cL.nd) fh))))
   (ak (bI (aO eC (sv 5) (aq hr.units (aq hr.units (sv 4) (aq hr.units (sv 3) ai)) ai) (aF _)) (ax (aJ mx)) aZ)
   (ax (aJ (qj (dP (bK hr.units) (aq hr.units (sv 2) ai) (aq hr.units (sv 3) ai) (aF _)) (qf (dP eC (aC cM (aq hr.units (sv 2) ai) (sv 6)) (aC cM (aq hr.units (sv 3) ai) (sv 6)) (aF _))))))))))
theorem mG {f:Addr} {fd:FuncData} (F:Fun K "_law_due" "_law_due" fE f fd) (B:Bs P w K mg):FnOk P w K mg base CX0 1 f fd ["_law_ranks","_law_one","_law_other"] (spF K 3 cg):=
 (bE F my fun cdv A outer s H E hr=>by (conv=>arg 2;whnf);with_reducible exact (ak (bI (aO (bK hr.units) (aq hr.units (sv 1) ai) (aq hr.units (sv 2) ai) (aF _)) (ax (aJ (dP eC (aC cM (aC fI (aq hr.units (sv 1) ai) (aq hr.units (sv 2) ai)) (aq hr.units (aq hr.units (sv 0) (aq hr.units (sv 1) ai)) ai)) ai (aF _)))) aZ)
   (ax (aJ (dP eC (aq hr.units (aq hr.units (sv 0) (aq hr.units (sv 1) ai)) ai) (aq hr.units (aq hr.units (sv 0) (aq hr.units (sv 2) ai)) ai) (aF _))))))
theorem vN {f:Addr} {fd:FuncData} (F:Fun K "law" "law" gU f fd) (B:Bs P w K mg) (d__law_drawn:Df P w K mg base "_law_drawn" 1 ["_law_script"] 1 bZ) (d__law_program:Df P w K mg base "_law_program" 27 ["_law_state","_law_most","_law_odd"] 3 bV) (d__law_of:Df P w K mg base "_law_of" 3 ["_law_state","_law_some"] 2 aw) (d__law_next:Df P w K mg base "_law_next" 2 ["_law_state","_law_many"] 2 ar) (d__law_number:Df P w K mg base "_law_number" 4 ["_law_state"] 1 bO) (d_is_further:Df P w K mg base "is_further" 2 ["program","paper","one","other"] 4 bL) (d__law_due:Df P w K mg base "_law_due" 1 ["_law_ranks","_law_one","_law_other"] 3 cg):FnOk P w K mg base CX0 28 f fd ["_law_script"] (spF K 1 oZ):=
 (bE F cG fun cdv A outer s H E hr=>by (conv=>arg 2;whnf);with_reducible exact (ak (sset 1 cG.nd (ay d__law_drawn hr (by decide) (aa (sv 0) ah) (ab aj)))
   (ak (fB PassesOwn.never rfl (bX (by unfold Gl;kernel_rfl) B.range_ (aa ai ah) (hl:=(ab aj))) (sgn 2 cG.nd) (ak (sset 3 cG.nd (ay d__law_program hr (by decide) (aa (sv 1) (aa ai (aa ai ah))) (ab (ab (ab aj)))))
   (ak (sset 4 cG.nd (ay d__law_of hr (by decide) (aa (sv 1) (aa (SFL.lv (bo (aa ai (aa ai ah)) (ab (ab aj)))) ah)) (ab (ab aj))))
   (ak (sset 5 cG.nd (bD cx (by unfold Gl;kernel_rfl) B.tuple_ cA (aa (fW (N':=["_law_name","_law_most","_law_state"]) (caps:=[none,some 4,some 1]) (bG (by kernel_rfl)) rfl (eN (aq hr.units (sv 3) ai)) (fun _ _ _ _ _=>(sgn 0 (by show (["_law_name","_law_most","_law_state"]:List Str).Nodup;decide+kernel))) (fun _ _ _ _ _=>dh) (fun _ _ _ _ _=>(aE (aa (ay d__law_next hr (by decide) (aa (sv 2) (aa (sv 1) ah)) (ab (ab aj))) (aa (ay d__law_of hr (by decide) (aa (sv 2) (aa (SFL.lv (bo (aa ai (aa (fV dJ ai) ah)) (ab (ab aj)))) ah)) (ab (ab aj))) ah)) (ab (ab aj))))) ah)))
   (ak (sset 6 cG.nd (aE (aa (sv 5) (aa (aC tf (aE (aa (aE ah aj) ah) (ab aj)) (aL cy (by unfold Gl;kernel_rfl) B.len_ cB (aa (aq hr.units (sv 3) ai) ah))) ah)) (ab (ab aj))))
   (ak (sset 7 cG.nd (bD (rj rfl) (by unfold Gl;kernel_rfl) B.dict_ oV (aa (SFL.lv (sf rfl (by unfold Gl;kernel_rfl) B.list_ lT (by unfold Gl;kernel_rfl) B.zip_ (aa (aq hr.units (sv 3) ai) (aa (sv 5) ah)) (ab (ab aj)))) ah)))
   (ax (fB PassesOwn.never rfl (bX (by unfold Gl;kernel_rfl) B.range_ (aa ai ah) (hl:=(ab aj))) (sgn 8 cG.nd) (ak (sset 9 cG.nd (aE (aa (ay d__law_of hr (by decide) (aa (sv 1) (aa (aq hr.units (sv 3) ai) ah)) (ab (ab aj))) (aa (ay d__law_number hr (by decide) (aa (sv 1) ah) (ab aj)) ah)) (ab (ab aj))))
   (ak (sset 10 cG.nd (aE (aa (ay d__law_of hr (by decide) (aa (sv 1) (aa (aq hr.units (sv 3) ai) ah)) (ab (ab aj))) (aa (ay d__law_number hr (by decide) (aa (sv 1) ah) (ab aj)) ah)) (ab (ab aj))))
   (ak (rY 11 12 cG.nd (ab (ab aj)) rfl (by decide) (by with_unfolding_all exact (kU rfl cG.nd rfl rfl (by decide) rfl rfl (aa (ay d_is_further hr (by decide) (aa (sv 3) (aa (sv 6) (aa (sv 9) (aa (sv 10) ah)))) (ab (ab (ab (ab aj))))) (aa (ay d_is_further hr (by decide) (aa (sv 3) (aa (sv 6) (aa (sv 10) (aa (sv 9) ah)))) (ab (ab (ab (ab aj))))) ah)) rfl)))
   (ak (bI (SW.st (mj (qa (gB (aL wu (by unfold Gl;kernel_rfl) B.isinstance_ jL (aa (sv 11) (aa (xf (by unfold Gl;kernel_rfl) B.bool_ tZ) ah))))) (iy (aO (iS hr.units) (sv 11) (ay d__law_due hr (by decide) (aa (sv 7) (aa (sv 9) (aa (sv 10) ah))) (ab (ab (ab aj)))) (aF _))))) (ax (aJ mx)) aZ)
   (ax (bI (SW.st (mj (aO (iS hr.units) (sv 12) (ay d__law_due hr (by decide) (aa (sv 7) (aa (sv 10) (aa (sv 9) ah))) (ab (ab (ab aj)))) (aF _)) (iy (SW.st (eL (gB (sv 11)) (dM (gB (sv 12)))))))) (ax (aJ mx)) aZ))))))))))))))
   (ax (aJ mx)))))
end
abbrev pw:Program:=PySem.Challenge.pw_neverstuck_k46_further_locks
def view:Program:={pw with main:={pw.main with body:=[top 1,top 2,top 4,top 5,top 6,top 7,top 8,top 9,top 10,top 11,top 12,top 13,top 14,top 15,top 16,top 17,top 18,top 19,top 20,top 21]}}
theorem dq:Hd.freeOk view ([]:List Str) ["abs","bool","dict","enumerate","int","isinstance","len","list","max","min","range","sorted","tuple","zip"]=true:=by decide+kernel
theorem iM:(recsOf view).find? (fun e=>e.name==("_law_drawn":Str))=some (Hd.bR "_law_drawn" dU):=by kernel_rfl
theorem jz:(recsOf view).find? (fun e=>e.name==("_law_load":Str))=some (Hd.bR "_law_load" eS):=by kernel_rfl
theorem jx:(recsOf view).find? (fun e=>e.name==("_law_next":Str))=some (Hd.bR "_law_next" eQ):=by kernel_rfl
theorem mB:(recsOf view).find? (fun e=>e.name==("_law_of":Str))=some (Hd.bR "_law_of" gF):=by kernel_rfl
theorem iL:(recsOf view).find? (fun e=>e.name==("_law_words":Str))=some (Hd.bR "_law_words" dS):=by kernel_rfl
theorem iK:(recsOf view).find? (fun e=>e.name==("_law_world":Str))=some (Hd.bR "_law_world" dR):=by kernel_rfl
theorem hW:(recsOf view).find? (fun e=>e.name==("_law_is_odd":Str))=some (Hd.bR "_law_is_odd" dA):=by kernel_rfl
theorem jw:(recsOf view).find? (fun e=>e.name==("_law_term":Str))=some (Hd.bR "_law_term" eP):=by kernel_rfl
theorem jA:(recsOf view).find? (fun e=>e.name==("_law_call":Str))=some (Hd.bR "_law_call" eT):=by kernel_rfl
theorem jy:(recsOf view).find? (fun e=>e.name==("_law_lock":Str))=some (Hd.bR "_law_lock" eR):=by kernel_rfl
theorem kQ:(recsOf view).find? (fun e=>e.name==("_law_lot":Str))=some (Hd.bR "_law_lot" fD):=by kernel_rfl
theorem kP:(recsOf view).find? (fun e=>e.name==("_law_row":Str))=some (Hd.bR "_law_row" fC):=by kernel_rfl
theorem hV:(recsOf view).find? (fun e=>e.name==("_law_locked":Str))=some (Hd.bR "_law_locked" dz):=by kernel_rfl
theorem gb:(recsOf view).find? (fun e=>e.name==("_law_two_ways":Str))=some (Hd.bR "_law_two_ways" cT):=by kernel_rfl
theorem gH:(recsOf view).find? (fun e=>e.name==("_law_program":Str))=some (Hd.bR "_law_program" c6):=by kernel_rfl
theorem g9:(recsOf view).find? (fun e=>e.name==("_law_number":Str))=some (Hd.bR "_law_number" dy):=by kernel_rfl
theorem fZ:(recsOf view).find? (fun e=>e.name==("ranks_by_name":Str))=some (Hd.bR "ranks_by_name" cS):=by kernel_rfl
theorem iJ:(recsOf view).find? (fun e=>e.name==("is_further":Str))=some (Hd.bR "is_further" dQ):=by kernel_rfl
theorem kR:(recsOf view).find? (fun e=>e.name==("_law_due":Str))=some (Hd.bR "_law_due" fE):=by kernel_rfl
theorem su:(recsOf view).find? (fun e=>e.name==("law":Str))=some (Hd.bR "law" gU):=by kernel_rfl
theorem all_mk {l:PySem.W.OpenLaw} {w:World} {h:Heap} {mg mb:Str→Option Value} {mean:ExcName→Option Value} (T:Top view (PySem.W.looseW view ([]:List Str)) mean mg mb h)
  (hF:∀ns:List Int,ns.length≤63→∃h',oZ [.ro (ns.map D.int)] []=some (.bl true,h')):
  ∃(fa:Addr) (fd:FuncData),mg "law"=some (.ref fa)∧(∀(s:Shared) (v:Value),BindsTo s fd ⟨[v],[]⟩ [("_law_script",v)])∧∀base:Heap,(Hd.cb h).In base→base.Ns mainGlobals mg→FnOk l.prog w (Hd.cb h) mg base CX0 28 fa fd ["_law_script"] (spT (Hd.cb h)):=by
 have B:Bs l.prog w (Hd.cb h) mg:=⟨Hd.bS T dq (List.Mem.head _),Hd.bS T dq (List.Mem.tail _ (List.Mem.head _)),Hd.bS T dq (List.Mem.tail _ (List.Mem.tail _ (List.Mem.head _))),Hd.bS T dq (List.Mem.tail _ (List.Mem.tail _ (List.Mem.tail _ (List.Mem.head _)))),Hd.bS T dq (List.Mem.tail _ (List.Mem.tail _ (List.Mem.tail _ (List.Mem.tail _ (List.Mem.head _))))),Hd.bS T dq (List.Mem.tail _ (List.Mem.tail _ (List.Mem.tail _ (List.Mem.tail _ (List.Mem.tail _ (List.Mem.head _)))))),Hd.bS T dq (List.Mem.tail _ (List.Mem.tail _ (List.Mem.tail _ (List.Mem.tail _ (List.Mem.tail _ (List.Mem.tail _ (List.Mem.head _))))))),Hd.bS T dq (List.Mem.tail _ (List.Mem.tail _ (List.Mem.tail _ (List.Mem.tail _ (List.Mem.tail _ (List.Mem.tail _ (List.Mem.tail _ (List.Mem.head _)))))))),Hd.bS T dq (List.Mem.tail _ (List.Mem.tail _ (List.Mem.tail _ (List.Mem.tail _ (List.Mem.tail _ (List.Mem.tail _ (List.Mem.tail _ (List.Mem.tail _ (List.Mem.head _))))))))),Hd.bS T dq (List.Mem.tail _ (List.Mem.tail _ (List.Mem.tail _ (List.Mem.tail _ (List.Mem.tail _ (List.Mem.tail _ (List.Mem.tail _ (List.Mem.tail _ (List.Mem.tail _ (List.Mem.head _)))))))))),Hd.bS T dq (List.Mem.tail _ (List.Mem.tail _ (List.Mem.tail _ (List.Mem.tail _ (List.Mem.tail _ (List.Mem.tail _ (List.Mem.tail _ (List.Mem.tail _ (List.Mem.tail _ (List.Mem.tail _ (List.Mem.head _))))))))))),Hd.bS T dq (List.Mem.tail _ (List.Mem.tail _ (List.Mem.tail _ (List.Mem.tail _ (List.Mem.tail _ (List.Mem.tail _ (List.Mem.tail _ (List.Mem.tail _ (List.Mem.tail _ (List.Mem.tail _ (List.Mem.tail _ (List.Mem.head _)))))))))))),Hd.bS T dq (List.Mem.tail _ (List.Mem.tail _ (List.Mem.tail _ (List.Mem.tail _ (List.Mem.tail _ (List.Mem.tail _ (List.Mem.tail _ (List.Mem.tail _ (List.Mem.tail _ (List.Mem.tail _ (List.Mem.tail _ (List.Mem.tail _ (List.Mem.head _))))))))))))),Hd.bS T dq (List.Mem.tail _ (List.Mem.tail _ (List.Mem.tail _ (List.Mem.tail _ (List.Mem.tail _ (List.Mem.tail _ (List.Mem.tail _ (List.Mem.tail _ (List.Mem.tail _ (List.Mem.tail _ (List.Mem.tail _ (List.Mem.tail _ (List.Mem.tail _ (List.Mem.head _))))))))))))))⟩
 obtain ⟨f1,fd1,m1,F1⟩:=Hd.ck T iM
 have k1:=F1.kp
 have b1:=F1.binds (ps:=["_law_script"]) fun _ _ _ _ _ _ us hl=>match us,hl with | [_],_=>rfl
 obtain ⟨f2,fd2,m2,F2⟩:=Hd.ck T jz
 have k2:=F2.kp
 have b2:=F2.binds (ps:=["_law_state"]) fun _ _ _ _ _ _ us hl=>match us,hl with | [_],_=>rfl
 obtain ⟨f3,fd3,m3,F3⟩:=Hd.ck T jx
 have k3:=F3.kp
 have b3:=F3.binds (ps:=["_law_state","_law_many"]) fun _ _ _ _ _ _ us hl=>match us,hl with | [_,_],_=>rfl
 obtain ⟨f4,fd4,m4,F4⟩:=Hd.ck T mB
 have k4:=F4.kp
 have b4:=F4.binds (ps:=["_law_state","_law_some"]) fun _ _ _ _ _ _ us hl=>match us,hl with | [_,_],_=>rfl
 obtain ⟨f5,fd5,m5,F5⟩:=Hd.ck T iL
 have k5:=F5.kp
 have b5:=F5.binds (ps:=["_law_state","_law_many"]) fun _ _ _ _ _ _ us hl=>match us,hl with | [_,_],_=>rfl
 obtain ⟨f6,fd6,m6,F6⟩:=Hd.ck T iK
 have k6:=F6.kp
 have b6:=F6.binds (ps:=["_law_state","_law_most","_law_odd"]) fun _ _ _ _ _ _ us hl=>match us,hl with | [_,_,_],_=>rfl
 obtain ⟨f7,fd7,m7,F7⟩:=Hd.ck T hW
 have k7:=F7.kp
 have b7:=F7.binds (ps:=["_law_state","_law_world_here"]) fun _ _ _ _ _ _ us hl=>match us,hl with | [_,_],_=>rfl
 obtain ⟨f8,fd8,m8,F8⟩:=Hd.ck T jw
 have k8:=F8.kp
 have b8:=F8.binds (ps:=["_law_state","_law_params"]) fun _ _ _ _ _ _ us hl=>match us,hl with | [_,_],_=>rfl
 obtain ⟨f9,fd9,m9,F9⟩:=Hd.ck T jA
 have k9:=F9.kp
 have b9:=F9.binds (ps:=["_law_state","_law_world_here","_law_deed","_law_top"]) fun _ _ _ _ _ _ us hl=>match us,hl with | [_,_,_,_],_=>rfl
 obtain ⟨f10,fd10,m10,F10⟩:=Hd.ck T jy
 have k10:=F10.kp
 have b10:=F10.binds (ps:=["_law_state","_law_world_here","_law_deed","_law_top","_law_held"]) fun _ _ _ _ _ _ us hl=>match us,hl with | [_,_,_,_,_],_=>rfl
 obtain ⟨f11,fd11,m11,F11⟩:=Hd.ck T kQ
 have k11:=F11.kp
 have b11:=F11.binds (ps:=["_law_state","_law_world_here","_law_deed","_law_deep","_law_top","_law_held","_law_most"]) fun _ _ _ _ _ _ us hl=>match us,hl with | [_,_,_,_,_,_,_],_=>rfl
 obtain ⟨f12,fd12,m12,F12⟩:=Hd.ck T kP
 have k12:=F12.kp
 have b12:=F12.binds (ps:=["_law_state","_law_world_here","_law_deed","_law_deep","_law_top","_law_held"]) fun _ _ _ _ _ _ us hl=>match us,hl with | [_,_,_,_,_,_],_=>rfl
 obtain ⟨f13,fd13,m13,F13⟩:=Hd.ck T hV
 have k13:=F13.kp
 have b13:=F13.binds (ps:=["_law_state","_law_world_here","_law_deed","_law_deep","_law_top","_law_held","_law_way"]) fun _ _ _ _ _ _ us hl=>match us,hl with | [_,_,_,_,_,_,_],_=>rfl
 obtain ⟨f14,fd14,m14,F14⟩:=Hd.ck T gb
 have k14:=F14.kp
 have b14:=F14.binds (ps:=["_law_state","_law_world_here","_law_deed","_law_deep","_law_top","_law_held"]) fun _ _ _ _ _ _ us hl=>match us,hl with | [_,_,_,_,_,_],_=>rfl
 obtain ⟨f15,fd15,m15,F15⟩:=Hd.ck T gH
 have k15:=F15.kp
 have b15:=F15.binds (ps:=["_law_state","_law_most","_law_odd"]) fun _ _ _ _ _ _ us hl=>match us,hl with | [_,_,_],_=>rfl
 obtain ⟨f16,fd16,m16,F16⟩:=Hd.ck T g9
 have k16:=F16.kp
 have b16:=F16.binds (ps:=["_law_state"]) fun _ _ _ _ _ _ us hl=>match us,hl with | [_],_=>rfl
 obtain ⟨f17,fd17,m17,F17⟩:=Hd.ck T fZ
 have k17:=F17.kp
 have b17:=F17.binds (ps:=["program","paper"]) fun _ _ _ _ _ _ us hl=>match us,hl with | [_,_],_=>rfl
 obtain ⟨f18,fd18,m18,F18⟩:=Hd.ck T iJ
 have k18:=F18.kp
 have b18:=F18.binds (ps:=["program","paper","one","other"]) fun _ _ _ _ _ _ us hl=>match us,hl with | [_,_,_,_],_=>rfl
 obtain ⟨f19,fd19,m19,F19⟩:=Hd.ck T kR
 have k19:=F19.kp
 have b19:=F19.binds (ps:=["_law_ranks","_law_one","_law_other"]) fun _ _ _ _ _ _ us hl=>match us,hl with | [_,_,_],_=>rfl
 obtain ⟨f20,fd20,m20,F20⟩:=Hd.ck T su
 have k20:=F20.kp
 refine ⟨f20,fd20,m20,F20.one fun _ _ _ _ _ _ _=>rfl,fun base _ _=>?_⟩
 have d__law_drawn:Df l.prog w (Hd.cb h) mg base "_law_drawn" 1 ["_law_script"] 1 bZ:=⟨f1,_,jE F1 B,k1,b1,m1⟩
 have d__law_load:Df l.prog w (Hd.cb h) mg base "_law_load" 1 ["_law_state"] 1 cQ:=⟨f2,_,lj F2 B,k2,b2,m2⟩
 have d__law_next:Df l.prog w (Hd.cb h) mg base "_law_next" 2 ["_law_state","_law_many"] 2 ar:=⟨f3,_,lg F3 B d__law_load,k3,b3,m3⟩
 have d__law_of:Df l.prog w (Hd.cb h) mg base "_law_of" 3 ["_law_state","_law_some"] 2 aw:=⟨f4,_,nJ F4 B d__law_next,k4,b4,m4⟩
 have d__law_words:Df l.prog w (Hd.cb h) mg base "_law_words" 4 ["_law_state","_law_many"] 2 bM:=⟨f5,_,jD F5 B d__law_of d__law_next,k5,b5,m5⟩
 have d__law_world:Df l.prog w (Hd.cb h) mg base "_law_world" 5 ["_law_state","_law_most","_law_odd"] 3 cC:=⟨f6,_,jC F6 B d__law_words d__law_of d__law_next,k6,b6,m6⟩
 have d__law_is_odd:Df l.prog w (Hd.cb h) mg base "_law_is_odd" 3 ["_law_state","_law_world_here"] 2 bg:=⟨f7,_,iU F7 B d__law_next,k7,b7,m7⟩
 have d__law_term:Df l.prog w (Hd.cb h) mg base "_law_term" 4 ["_law_state","_law_params"] 2 aT:=⟨f8,_,kZ F8 B d__law_next d__law_of,k8,b8,m8⟩
 have d__law_call:Df l.prog w (Hd.cb h) mg base "_law_call" 5 ["_law_state","_law_world_here","_law_deed","_law_top"] 4 cR:=⟨f9,_,lr F9 B d__law_is_odd d__law_of d__law_term,k9,b9,m9⟩
 have d__law_lock:Df l.prog w (Hd.cb h) mg base "_law_lock" 5 ["_law_state","_law_world_here","_law_deed","_law_top","_law_held"] 5 cm:=⟨f10,_,lh F10 B d__law_next d__law_is_odd d__law_term,k10,b10,m10⟩
 have okr:=oM (P:=l.prog) (w:=w) (base:=base) F11 k11 b11 m11 F12 k12 b12 m12 F13 k13 b13 m13 F14 k14 b14 m14 B d__law_next d__law_of d__law_call d__law_term d__law_lock 20
 have d__law_lot:Df l.prog w (Hd.cb h) mg base "_law_lot" 26 ["_law_state","_law_world_here","_law_deed","_law_deep","_law_top","_law_held","_law_most"] 7 (aS 20):=⟨f11,_,okr.1,k11,b11,m11⟩
 have d__law_row:Df l.prog w (Hd.cb h) mg base "_law_row" 26 ["_law_state","_law_world_here","_law_deed","_law_deep","_law_top","_law_held"] 6 (cJ 20):=⟨f12,_,okr.2.1,k12,b12,m12⟩
 have d__law_locked:Df l.prog w (Hd.cb h) mg base "_law_locked" 26 ["_law_state","_law_world_here","_law_deed","_law_deep","_law_top","_law_held","_law_way"] 7 (bP 20):=⟨f13,_,okr.2.2.1,k13,b13,m13⟩
 have d__law_two_ways:Df l.prog w (Hd.cb h) mg base "_law_two_ways" 26 ["_law_state","_law_world_here","_law_deed","_law_deep","_law_top","_law_held"] 6 (bu 20):=⟨f14,_,okr.2.2.2,k14,b14,m14⟩
 have d__law_program:Df l.prog w (Hd.cb h) mg base "_law_program" 27 ["_law_state","_law_most","_law_odd"] 3 bV:=⟨f15,_,hY F15 B d__law_world d__law_lot d__law_of,k15,b15,m15⟩
 have d__law_number:Df l.prog w (Hd.cb h) mg base "_law_number" 4 ["_law_state"] 1 bO:=⟨f16,_,iT F16 B d__law_of d__law_next,k16,b16,m16⟩
 have d_ranks_by_name:Df l.prog w (Hd.cb h) mg base "ranks_by_name" 1 ["program","paper"] 2 bt:=⟨f17,_,gJ F17 B,k17,b17,m17⟩
 have d_is_further:Df l.prog w (Hd.cb h) mg base "is_further" 2 ["program","paper","one","other"] 4 bL:=⟨f18,_,jB F18 B d_ranks_by_name,k18,b18,m18⟩
 have d__law_due:Df l.prog w (Hd.cb h) mg base "_law_due" 1 ["_law_ranks","_law_one","_law_other"] 3 cg:=⟨f19,_,mG F19 B,k19,b19,m19⟩
 exact tI (vN F20 B d__law_drawn d__law_program d__law_of d__law_next d__law_number d_is_further d__law_due) hF
end Mi
local macro_rules | `(tactic| walk_at "one") => `(tactic| with_reducible first
 | refine Sm.mC ?_ | refine Sm.x9 ?_ | refine Sm.xm ?_ | refine Sm.xw ?_ | refine Sm.uZ ?_ | refine Sm.xn ?_ | refine Sm.ud ?_ | refine Sm.uU ?_ | refine Sm.xq ?_ | refine Sm.uV ?_ | refine Sm.sx ?_
 | refine Sm.uW ?_ | refine Sm.yk ?_ | refine Sm.r_k ?_ | refine Sm.yt ?_ | refine Sm.u0 ?_ | refine Sm.xt ?_ | refine Sm.yp ?_ | refine Sm.yo ?_ | refine Sm.yn ?_ | refine Sm.yu ?_ | refine Sm.yw ?_
 | refine Sm.u4 ?_ | refine Sm.uR ?_ | refine Sm.uS ?_ | refine Sm.uT ?_ | refine Sm.xl ?_ | refine Sm.xx ?_ | refine Sm.ym ?_ | refine Sm.xr ?_
 | refine Sm.yl ?_ | refine Sm.xo ?_ | refine Sm.xp ?_ | refine Sm.yr ?_ | refine Sm.uY ?_ | refine Sm.qq ?_ | refine Sm.sA ?_ | refine Sm.xv ?_ | refine Sm.u3 ?_
 | refine Sm.yJ ?_ | refine Sm.yK ?_ | refine Sm.x8 ?_ | refine Sm.yb ?_ | refine Sm.ya ?_ | refine Sm.yP ?_ | refine Sm.yQ ?_ | refine Sm.yR ?_ | refine Sm.yO ?_)
local macro_rules | `(tactic| walk_at "go") => `(tactic| (repeat (first | walk_at "one" | with_reducible refine Sm.qp ?_ | with_reducible refine Sm.ue ?_)); (try dsimp only))
local macro_rules | `(tactic| walk_at "run") => `(tactic| (repeat (first | walk_at "one" | with_reducible refine Sm.qp ?_ | with_reducible refine Sm.ue ?_ | with_reducible refine Sm.wK ?_ | with_reducible refine Sm.wL ?_ | with_reducible refine Sm.w_add ?_ | with_reducible refine Sm.w_sub ?_ | with_reducible refine Sm.w_lt ?_ | with_reducible refine Sm.x4 ?_ | with_reducible refine Sm.x5 ?_ | with_reducible refine Sm.x6 ?_ | with_reducible refine Sm.wV ?_ | with_reducible refine Sm.wN ?_ | with_reducible refine Sm.wU ?_ | with_reducible refine Sm.wM ?_ | with_reducible refine Sm.wR ?_ | with_reducible refine Sm.wQ ?_ | with_reducible refine Sm.wO ?_ | with_reducible refine Sm.uq ?_ | with_reducible refine Sm.ur ?_ | with_reducible refine Sm.nE ?_)); (try dsimp only))
namespace Mi
open PySem Sm
theorem fF {a b:Int} {h:MH} {Q:D×MH→Prop} (hb:0 < b) (q:Q (.int (a % b),h)):Rn (i9 (.int a) (.int b) h) Q:=⟨_,by unfold i9;dsimp only;rw [if_pos hb],q⟩
theorem uN {a b:Int} {h:MH} {Q:D×MH→Prop} (hb:0 < b) (hb2:b≤10^40) (q:Q (.int (a / b),h)):Rn (qY (.int a) (.int b) h) Q:=⟨_,by unfold qY;dsimp only;rw [if_pos ⟨hb,hb2⟩],q⟩
theorem dW {a b:Int} {h:MH} {Q:D×MH→Prop} (hb:fy a b=true) (q:Q (.int (a*b),h)):Rn (dr (.int a) (.int b) h) Q:=⟨_,by show (if fy a b then _ else _)=_;rw [if_pos hb],q⟩
theorem mul_r {a b:Int} (h1:-(2^64) < b) (h2:b < 2^64):fy a b=true:=by unfold fy;simp only [Bool.or_eq_true,Bool.and_eq_true,decide_eq_true_eq];exact .inr ⟨h1,h2⟩
theorem qL {a b:Int} (h1:-(2^64) < a) (h2:a < 2^64):fy a b=true:=by unfold fy;simp only [Bool.or_eq_true,Bool.and_eq_true,decide_eq_true_eq];exact .inl ⟨h1,h2⟩
theorem pB {h:MH} {s c:Nat} {cs:List Int} {n t:Int} (hs:h[s]?=some (.lst [.int n,.ob c,.int t])) (hc:h[c]?=some (.lst (cs.map D.int))) (ne:c≠s) (t0:0≤t) (tB:t < 2^60):
  Rn (cQ [.ob s] h) fun p=>∃n',0≤n'∧p=(.non,h.set s (.lst [.int n',.ob c,.int (t+1)])):=by
 have hl:s < h.length:=(List.getElem?_eq_some_iff.mp hs).1
 generalize hH:h.set s (.lst [.int n,.ob c,.int (t+1)])=H
 have Hs:H[s]?=some (.lst [.int n,.ob c,.int (t+1)]):=by rw [←hH];exact List.getElem?_set_self hl
 have Hc:H[c]?=some (.lst (cs.map D.int)):=by rw [←hH,List.getElem?_set_ne (Ne.symm ne)];exact hc
 have set0:∀v:Int,jI (.ob s) (.int 0) (.int v) H=some (h.set s (.lst [.int v,.ob c,.int (t+1)])):=fun v=>by
  rw [lI (p:=0) Hs rfl,←hH,List.set_set];rfl
 have e3:jI (.ob s) (.int 2) (.int (t+1)) h=some H:=by rw [lI (p:=2) hs rfl,←hH];rfl
 have e4:cU [.ob c] H=some (.int cs.length,H):=by rw [oR Hc,List.length_map]
 refine cO ?_
 walk_at "go"
 refine rv (fc hs rfl) ?_
 walk_at "go"
 refine rv (fc hs rfl) ?_
 walk_at "go"
 refine rv rfl ?_
 walk_at "go"
 refine rv e3 ?_
 walk_at "go"
 refine rv (pL Hc) ⟨_,rfl,fun hne=>?pos,fun hne=>?neg⟩
 case' pos=>
  have hpos:0 < cs.length:=by cases cs with | nil=>simp at hne | cons _ _=>simp
  walk_at "go"
  refine rv e4 (fF (by omega) ?_)
  obtain ⟨z,hz⟩:=rJ cs (t % (cs.length:Int)) (Int.emod_nonneg _ (by omega)) (Int.emod_lt_of_pos _ (by omega))
  refine rv (fc Hc hz) ?_
 all_goals
  walk_at "go"
  refine rv e4 (rv rfl ⟨_,rfl,?_⟩)
  refine (fun mix=>⟨fun c1=>?thenA,fun _=>⟨fun z=>(nomatch z),fun _=>mix⟩⟩) ?thenB
  case thenA=>
   walk_at "go"
   refine rv rfl ?_
   walk_at "go"
   refine rv rfl (rv rfl ⟨_,rfl,fun c2=>?_,fun _=>mix⟩)
   walk_at "go"
   refine rv rfl ?_
   walk_at "go"
   refine rv (set0 _) ?_
   walk_at "go"
   exact ⟨_,by split <;> omega,rfl⟩
  case thenB=>
   walk_at "go"
   refine fF (by decide) ?_
   walk_at "go"
   refine dW (qL (by decide) (by decide)) ?_
   walk_at "go"
   refine dW (mul_r (by omega) (by omega)) (rv rfl ?_)
   walk_at "go"
   refine rv rfl ?_
   walk_at "go"
   refine dW (mul_r (by decide) (by decide)) ?_
   walk_at "go"
   refine fF (by decide) ?_
   walk_at "go"
   refine dW (qL (Int.lt_of_lt_of_le (by decide) (Int.emod_nonneg _ (by decide))) (Int.lt_trans (Int.emod_lt_of_pos _ (by decide)) (by decide))) ?_
   walk_at "go"
   refine fF (by decide) ?_
   walk_at "go"
   refine dW (mul_r (by decide) (by decide)) ?_
   walk_at "go"
   refine rv rfl ?_
   walk_at "go"
   refine rv rfl ?_
   walk_at "go"
   refine fF (by decide) ?_
   walk_at "go"
   refine rv rfl (rv rfl ?_)
   walk_at "go"
   refine rv (set0 _) ?_
   walk_at "go"
   exact ⟨_,Int.add_nonneg (Int.emod_nonneg _ (by decide)) (by decide),rfl⟩
end Mi
namespace Mi
open PySem Sm
structure St (s c:Nat) (cs:List Int) (B:Nat) (h:MH):Prop where
 st:∃n t:Int,h[s]?=some (.lst [.int n,.ob c,.int t])∧0≤n∧0≤t∧t≤B
 ce:h[c]?=some (.lst (cs.map D.int))
 ne:c≠s
def But (s:Nat) (h h':MH):Prop:=h'.length=h.length∧∀k,k≠s→h'[k]?=h[k]?
theorem But.refl (s:Nat) (h:MH):But s h h:=⟨rfl,fun _ _=>rfl⟩
theorem But.trans {s:Nat} {h h1 h2:MH} (a:But s h h1) (b:But s h1 h2):But s h h2:=⟨b.1.trans a.1,fun k n=>(b.2 k n).trans (a.2 k n)⟩
theorem But.set {s:Nat} {h:MH} {o:MO}:But s h (h.set s o):=⟨List.length_set,fun k n=>List.getElem?_set_ne (Ne.symm n)⟩
theorem St.up {s c:Nat} {cs:List Int} {B B':Nat} {h:MH} (S:St s c cs B h) (hB:B≤B'):St s c cs B' h:=by
 obtain ⟨n,t,e,a,b,d⟩:=S.st
 exact ⟨⟨n,t,e,a,b,by omega⟩,S.ce,S.ne⟩
theorem St.set {s c:Nat} {cs:List Int} {B B':Nat} {h:MH} {n t:Int} (S:St s c cs B h) (h1:0≤n) (h2:0≤t) (h3:t≤B'):St s c cs B' (h.set s (.lst [.int n,.ob c,.int t])):=by
 obtain ⟨n0,t0,e,_⟩:=S.st
 exact ⟨⟨n,t,List.getElem?_set_self (List.getElem?_eq_some_iff.mp e).1,h1,h2,h3⟩,by rw [List.getElem?_set_ne (Ne.symm S.ne)];exact S.ce,S.ne⟩
theorem St.more {s c:Nat} {cs:List Int} {B:Nat} {h:MH} (S:St s c cs B h) (g:MH):St s c cs B (h++g):=by
 obtain ⟨n,t,e,r⟩:=S.st
 exact ⟨⟨n,t,by rw [List.getElem?_append_left (List.getElem?_eq_some_iff.mp e).1];exact e,r⟩,by rw [List.getElem?_append_left (List.getElem?_eq_some_iff.mp S.ce).1];exact S.ce,S.ne⟩
theorem St.lt {s c:Nat} {cs:List Int} {B:Nat} {h:MH} (S:St s c cs B h):s < h.length∧c < h.length:=by
 obtain ⟨n,t,e,r⟩:=S.st
 exact ⟨(List.getElem?_eq_some_iff.mp e).1,(List.getElem?_eq_some_iff.mp S.ce).1⟩
theorem aX {h:MH} {s c:Nat} {cs:List Int} {B:Nat} {m:Int} (S:St s c cs B h) (hB:B < 2^60) (m0:0 < m) (m1:m≤10^40):
  Rn (ar [.ob s,.int m] h) fun p=>∃r:Int,p.1=.int r∧0≤r∧r < m∧St s c cs (B+1) p.2∧But s h p.2:=by
 obtain ⟨n,t,hs,n0,t0,tB⟩:=S.st
 refine cO ?_
 walk_at "go"
 refine rv (fc hs rfl) ?_
 walk_at "go"
 refine rv rfl ⟨_,rfl,fun _=>?pos,fun _=>?neg⟩
 case' pos=>
  walk_at "go"
  obtain ⟨p,ep,n',n0',rfl⟩:=pB hs S.ce S.ne t0 (by omega)
  refine rv ep ?_
  have S1:St s c cs (B+1) (h.set s (.lst [.int n',.ob c,.int (t+1)])):=S.set n0' (by omega) (by omega)
  have b1:But s h (h.set s (.lst [.int n',.ob c,.int (t+1)])):=But.set
 case' neg=>
  have S1:St s c cs (B+1) h:=S.up (Nat.le_succ B)
  have b1:But s h h:=But.refl s h
 all_goals
  generalize h.set s (MO.lst [D.int _,D.ob c,D.int (t+1)])=h1 at*
  obtain ⟨n2,t2,hs2,n02,t02,tB2⟩:=S1.st
  walk_at "go"
  refine rv (fc hs2 rfl) ?_
  walk_at "go"
  refine fF m0 ?_
  walk_at "go"
  refine rv (fc hs2 rfl) ?_
  walk_at "go"
  refine uN m0 m1 ?_
  walk_at "go"
  refine rv (lI (p:=0) hs2 rfl) ?_
  walk_at "go"
  exact ⟨_,rfl,Int.emod_nonneg _ (by omega),Int.emod_lt_of_pos _ m0,S1.set (Int.ediv_nonneg n02 (by omega)) t02 tB2,b1.trans But.set⟩
theorem a9 {h:MH} {s c:Nat} {cs:List Int} {B:Nat} {d:D} {xs:List D} (S:St s c cs B h) (hB:B < 2^60) (hd:d=.lv xs∨d=.tup xs) (h0:0 < xs.length) (h1:xs.length≤1000000):
  Rn (aw [.ob s,d] h) fun p=>p.1∈xs∧St s c cs (B+1) p.2∧But s h p.2:=by
 refine cO ?_
 walk_at "go"
 have e1:cU [d] h=some (.int xs.length,h):=by rcases hd with rfl | rfl <;> rfl
 refine rv e1 ?_
 walk_at "go"
 obtain ⟨p,ep,r,e2,r0,r1,S1,b1⟩:=aX (m:=(xs.length:Int)) S hB (by omega) (by omega)
 obtain ⟨x,h'⟩:=p
 dsimp only at e2 S1 b1
 subst e2
 refine rv ep ?_
 obtain ⟨v,e3,hv⟩:=rG r0 r1
 have e4:fIx d (.int r) h'=some (v,h'):=by rcases hd with rfl | rfl <;> simp only [fIx,cn,bY,Option.bind_some,e3,Option.map_some]
 refine rv e4 ?_
 walk_at "go"
 exact ⟨hv,S1,b1⟩
theorem n5 (ns:List Int) (hn:ns.length≤63):∃cs:List Int,bZ [.ro (ns.map D.int)] []=some (.ob 1,[.lst (cs.map D.int),.lst [.int 0,.ob 0,.int 0]])∧St 1 0 cs 0 [.lst (cs.map D.int),.lst [.int 0,.ob 0,.int 0]]:=by
 refine ⟨(ns.drop (HT.sIx ns.length 0 none)).take (HT.sIx ns.length ns.length (some 63)-HT.sIx ns.length 0 none),?_,⟨⟨0,0,rfl,by decide,by decide,by decide⟩,rfl,by decide⟩⟩
 have e:Rn (bZ [.ro (ns.map D.int)] []) fun p=>p=(.ob 1,[.lst (((ns.drop (HT.sIx ns.length 0 none)).take (HT.sIx ns.length ns.length (some 63)-HT.sIx ns.length 0 none)).map D.int),.lst [.int 0,.ob 0,.int 0]]):=by
  refine cO ?_
  walk_at "go"
  refine uX ?_
  walk_at "go"
  refine ⟨_,rfl,rv rfl ?_⟩
  walk_at "go"
  refine ⟨_,_,_,rfl,rfl,?_⟩
  walk_at "go"
  simp only [cutD,List.length_map,List.map_drop,List.map_take,List.length_nil,List.nil_append,List.cons_append,List.length_cons]
 obtain ⟨p,ep,rfl⟩:=e
 exact ep
end Mi
namespace Mi
open PySem Sm L2
theorem gM {a b:Str} {h:MH} (hl:a.length+b.length≤10000):aV (.str a) (.str b) h=some (.str (a++b),h):=by
 show (if a.length+b.length≤sizeLine then some (D.str (a++b),h) else none)=_
 rw [if_pos (by rw [show sizeLine=16777216 from rfl];omega)]
theorem qX {a:Str} {h:MH} (hl:a.length≤10000):cU [.str a] h=some (.int a.length,h):=by
 show (if a.length≤sizeLine then some (D.int a.length,h) else none)=_
 rw [if_pos (by rw [show sizeLine=16777216 from rfl];omega)]
theorem mT {a:Str} {lo hi:Option Int} {h:MH} (hl:a.length≤10000):pJ (.str a) lo hi h=some (.str (Txt.slice a lo hi),h):=by
 show (if a.length≤sizeLine then some (D.str (Txt.slice a lo hi),h) else none)=_
 rw [if_pos (by rw [show sizeLine=16777216 from rfl];omega)]
def jj (z:Str) (i:Int):Str:=match atI z.cps.toList i with
 | some c=>⟨#[c]⟩
 | none=>""
theorem tR {z:Str} {i:Int} {h:MH} (hl:z.length≤10000) (h0:0≤i) (h1:i < z.cps.toList.length):(jj z i).length=1∧fIx (.str z) (.int i) h=some (.str (jj z i),h):=by
 obtain ⟨v,e,_⟩:=rG (xs:=z.cps.toList) h0 h1
 have e1:jj z i=⟨#[v]⟩:=by unfold jj;rw [e]
 rw [e1]
 refine ⟨rfl,?_⟩
 show (if z.length≤sizeLine then (atI z.cps.toList i).map fun c=>(D.str ⟨#[c]⟩,h) else none)=_
 rw [if_pos (by rw [show sizeLine=16777216 from rfl];omega),e]
 rfl
def cN:Str:="abcdefghijklmnopqrstuvwxyz"
theorem fL {i:Int} {h:MH} (h0:0≤i) (h1:i < 26):(jj cN i).length=1∧fIx (.str "abcdefghijklmnopqrstuvwxyz") (.int i) h=some (.str (jj cN i),h):=
 tR (z:=cN) (by decide) h0 (by rw [show (cN.cps.toList.length:Int)=26 by decide];exact h1)
def low (w:Str):Prop:=∀c∈w.cps,97≤c∧c≤122
theorem tF:low "":=fun c hc=>absurd (show c∈(#[]:Array Nat) from hc) (by simp)
theorem lC {a b:Str} (ha:low a) (hb:low b):low (a++b):=by
 intro c hc
 have hc':c∈a.cps++b.cps:=hc
 rcases Array.mem_append.mp hc' with z | z
 ·exact ha c z
 ·exact hb c z
theorem j7 {x:Str} (l u:Option Int) (h:low x):low (Txt.slice x l u):=by
 unfold Txt.slice
 split
 ·exact h
 ·intro c hc
  have hc':c∈(List.filterMap (x.cps[·]?) (Builtin.Str.strSliceIndices l u 1 x.length)).toArray:=hc
  rw [List.mem_toArray] at hc'
  obtain ⟨i,_,e⟩:=List.mem_filterMap.mp hc'
  exact h c (Array.mem_of_getElem? e)
theorem nO:cN.cps.toList=(List.range 26).map (97+·):=by decide+kernel
theorem lP {i:Int} (h0:0≤i) (h1:i < 26):jj cN i=⟨#[97+i.toNat]⟩:=by
 obtain ⟨n,rfl⟩:=Int.eq_ofNat_of_zero_le h0
 have:atI cN.cps.toList (n:Int)=some (97+n):=by
  rw [nO]
  exact lX (by rw [List.getElem?_map,List.getElem?_range (by omega)];rfl)
 unfold jj
 rw [this]
 rfl
theorem nj {i:Int} (h0:0≤i) (h1:i < 26):low (jj cN i):=by
 rw [lP h0 h1]
 intro c hc
 have:c=97+i.toNat:=by simpa using hc
 omega
theorem mw {x:Str} {j:Int} (h0:0≤j):(Txt.slice x none (some j)).length≤j.toNat:=by
 have key:(Builtin.Str.strSliceIndices none (some j) 1 x.length).length≤j.toNat:=by
  unfold Builtin.Str.strSliceIndices sliceRange
  simp only [show (1:Int) > 0 by decide,if_true,List.length_map,List.length_range]
  (split <;> (try split) <;> (try split) <;> (try simp only [Int.ediv_one]) <;> omega)
 unfold Txt.slice
 split
 ·next z=>simp at z;have:x.cps.size=x.length:=rfl;omega
 ·show (List.filterMap _ (Builtin.Str.strSliceIndices none (some j) 1 x.length)).toArray.size≤_
  rw [List.size_toArray]
  exact Nat.le_trans (List.length_filterMap_le _ _) key
theorem mr {x:Str} {j:Int} (h0:0≤j):(Txt.slice x (some j) none).length≤x.length-j.toNat:=by
 have key:(Builtin.Str.strSliceIndices (some j) none 1 x.length).length≤x.length-j.toNat:=by
  unfold Builtin.Str.strSliceIndices sliceRange
  simp only [show (1:Int) > 0 by decide,if_true,List.length_map,List.length_range]
  (split <;> (try split) <;> (try split) <;> (try simp only [Int.ediv_one]) <;> omega)
 unfold Txt.slice
 split
 ·next z=>simp at z;have:x.cps.size=x.length:=rfl;omega
 ·show (List.filterMap _ (Builtin.Str.strSliceIndices (some j) none 1 x.length)).toArray.size≤_
  rw [List.size_toArray]
  exact Nat.le_trans (List.length_filterMap_le _ _) key
theorem ow {a b x y:Str} (e:a++x++b=a++y++b):x=y:=by
 have e1:(a.cps++x.cps)++b.cps=(a.cps++y.cps)++b.cps:=congrArg Str.cps e
 have e2:=congrArg Array.toList e1
 simp only [Array.toList_append] at e2
 have e3:=List.append_cancel_left (List.append_cancel_right e2)
 cases x;cases y;exact congrArg Str.mk (Array.toList_inj.mp e3)
def wordAt (stem:Str) (at_ first stride:Int) (k:Int):Str:=Txt.slice stem none (some at_)++jj cN ((first+stride*k) % 26)++Txt.slice stem (some at_) none
theorem p0 {stem:Str} {at_ first stride:Int} {k j:Nat} (hs:stride∈[1,3,5,7,9,11]) (hk:k < 6) (hj:j < 6) (e:wordAt stem at_ first stride k=wordAt stem at_ first stride j):k=j:=by
 have e1:=ow (show Txt.slice stem none (some at_)++_++Txt.slice stem (some at_) none=Txt.slice stem none (some at_)++_++_ from e)
 rw [lP (Int.emod_nonneg _ (by decide)) (Int.emod_lt_of_pos _ (by decide)),lP (Int.emod_nonneg _ (by decide)) (Int.emod_lt_of_pos _ (by decide))] at e1
 have e2:97+((first+stride*k) % 26).toNat=97+((first+stride*j) % 26).toNat:=by injection e1 with e1;injection e1 with e1;injection e1
 have e3:(first+stride*k) % 26=(first+stride*j) % 26:=by
  have a1:=Int.emod_nonneg (first+stride*k) (show (26:Int)≠0 by decide)
  have a2:=Int.emod_nonneg (first+stride*j) (show (26:Int)≠0 by decide)
  omega
 simp at hs
 rcases hs with rfl | rfl | rfl | rfl | rfl | rfl <;> omega
theorem eX {h:MH} {s c:Nat} {cs:List Int} {B:Nat} {m:Int} (S:Mi.St s c cs B h) (hB:B+100 < 2^60) (m0:0≤m) (m1:m≤6):
  Rn (bM [.ob s,.int m] h) fun p=>∃ws:List Str,p.1=.lv (ws.map D.str)∧ws.length=m.toNat∧(∀w∈ws,1≤w.length∧w.length≤7∧low w)∧ws.Nodup∧Mi.St s c cs (B+20) p.2∧But s h p.2:=by
 refine cO ?_
 walk_at "go"
 refine dZ ?_
 walk_at "go"
 obtain ⟨⟨x,h1⟩,e1,hx,S1,b1⟩:=a9 (d:=.lv [.int 0,.int 1,.int 1,.int 2,.int 3,.int 6]) S (by omega) (.inl rfl) (by simp) (by simp)
 refine rv e1 ?_
 dsimp only at hx S1 b1
 have hk:∃k:Nat,x=.int k∧k≤6:=by
  simp at hx
  rcases hx with rfl | rfl | rfl | rfl | rfl
  ·exact ⟨0,rfl,by omega⟩
  ·exact ⟨1,rfl,by omega⟩
  ·exact ⟨2,rfl,by omega⟩
  ·exact ⟨3,rfl,by omega⟩
  ·exact ⟨6,rfl,by omega⟩
 obtain ⟨k,rfl,hk⟩:=hk
 walk_at "go"
 refine ⟨(k:Int),rfl,by omega,by omega,?_⟩
 rw [Int.toNat_natCast]
 refine eV (fun i δ h'=>∃stem d4,δ=[some (.ob s),some (.int m),some (.str "abcdefghijklmnopqrstuvwxyz"),some (.str stem),d4,none,none,none]∧stem.length≤i∧low stem∧Mi.St s c cs (B+1+i) h'∧But s h h')
  ⟨"",_,rfl,Nat.le_refl _,tF,S1,b1⟩ (fun _ _ _ _ _=>rfl) ?_ ?_
 ·rintro i x δ h2 hx ⟨stem,d4,rfl,hst,hok,S2,b2⟩
  have hi:i < k:=by
   have:=(List.getElem?_eq_some_iff.mp hx).1
   simpa using this
  walk_at "go"
  obtain ⟨⟨y,h3⟩,e3,r,rfl,r0,r1,S3,b3⟩:=aX (m:=26) S2 (by omega) (by decide) (by decide)
  refine rv e3 ?_
  walk_at "go"
  obtain ⟨hc,e4⟩:=fL (h:=h3) r0 r1
  refine rv e4 ?_
  walk_at "go"
  refine rv (gM (by omega)) ?_
  walk_at "go"
  exact ⟨stem++jj cN r,_,rfl,by rw [PySem.Str.length_append];omega,lC hok (nj r0 r1),S3,b2.trans b3⟩
 ·rintro δ h2 ⟨stem,d4,rfl,hst,hok,S2,b2⟩
  rw [List.length_map,List.length_range] at hst S2
  walk_at "go"
  refine rv (qX (by omega)) ?_
  walk_at "go"
  refine rv (a:=(.int ((stem.length:Int)+1),h2)) rfl ?_
  walk_at "go"
  obtain ⟨⟨y,h3⟩,e3,at_,rfl,a0,a1,S3,b3⟩:=aX (m:=(stem.length:Int)+1) S2 (by omega) (by omega) (by omega)
  refine rv e3 ?_
  walk_at "go"
  obtain ⟨⟨y,h4⟩,e4,first,rfl,f0,f1,S4,b4⟩:=aX (m:=26) S3 (by omega) (by decide) (by decide)
  refine rv e4 ?_
  walk_at "go"
  obtain ⟨⟨x,h5⟩,e5,hx,S5,b5⟩:=a9 (d:=.lv [.int 1,.int 3,.int 5,.int 7,.int 9,.int 11]) S4 (by omega) (.inl rfl) (by simp) (by simp)
  refine rv e5 ?_
  dsimp only at hx S5 b5 ⊢
  have hs:∃r:Int,x=.int r∧0≤r∧r≤11∧r∈[1,3,5,7,9,11]:=by
   simp at hx
   rcases hx with rfl | rfl | rfl | rfl | rfl | rfl
   ·exact ⟨1,rfl,by decide,by decide,by simp⟩
   ·exact ⟨3,rfl,by decide,by decide,by simp⟩
   ·exact ⟨5,rfl,by decide,by decide,by simp⟩
   ·exact ⟨7,rfl,by decide,by decide,by simp⟩
   ·exact ⟨9,rfl,by decide,by decide,by simp⟩
   ·exact ⟨11,rfl,by decide,by decide,by simp⟩
  obtain ⟨stride,rfl,t0,t1,tm⟩:=hs
  walk_at "go"
  refine dZ ?_
  walk_at "go"
  refine ⟨m,rfl,by omega,by omega,?_⟩
  have hw:∀k:Int,1≤(wordAt stem at_ first stride k).length∧(wordAt stem at_ first stride k).length≤7∧low (wordAt stem at_ first stride k):=by
   intro k
   have c0:=Int.emod_nonneg (first+stride*k) (show (26:Int)≠0 by decide)
   have c1:=Int.emod_lt_of_pos (first+stride*k) (show (0:Int) < 26 by decide)
   obtain ⟨hc,e⟩:=fL (i:=(first+stride*k) % 26) (h:=[]) c0 c1
   have s1:=mw (x:=stem) a0
   have s2:=mr (x:=stem) a0
   have s3:low (wordAt stem at_ first stride k):=lC (lC (j7 _ _ hok) (nj c0 c1)) (j7 _ _ hok)
   refine (fun (z:_∧_)=>⟨z.1,z.2,s3⟩) ?_
   unfold wordAt
   rw [PySem.Str.length_append,PySem.Str.length_append]
   omega
  refine rv (kT rfl (fun x=>match x with | .int k=>some (.str (wordAt stem at_ first stride k)) | _=>none) (fun δ=>∃d0,δ=[d0,some (.int at_),some (.int first),some (.str "abcdefghijklmnopqrstuvwxyz"),some (.str stem),some (.int stride)]) ⟨_,rfl⟩ ?_) ⟨?_,?_⟩
  ·rintro x hx δ ⟨d0,rfl⟩
   obtain ⟨k,hk,rfl⟩:=List.mem_map.mp hx
   refine rv rfl ⟨rfl,rv rfl ⟨rfl,⟨_,rfl⟩,fun _=>⟨_,rfl,?_⟩,fun z=>(nomatch z)⟩⟩
   refine uW (uW (nE ?_))
   walk_at "go"
   refine ⟨_,rfl,rv (mT (a:=stem) (by omega)) ?_⟩
   walk_at "go"
   refine dW (qL (by omega) (by omega)) ?_
   refine rv (a:=(.int (first+stride*(k:Int)),h5)) rfl ?_
   walk_at "go"
   refine fF (by decide) ?_
   obtain ⟨hc,e⟩:=fL (i:=(first+stride*(k:Int)) % 26) (h:=h5) (Int.emod_nonneg _ (by decide)) (Int.emod_lt_of_pos _ (by decide))
   have s1:=Txt.slice_le stem none (some at_)
   have s2:=Txt.slice_le stem (some at_) none
   refine rv e (rv (gM (by omega)) ?_)
   refine nE ?_
   walk_at "go"
   refine ⟨_,rfl,?_⟩
   walk_at "go"
   refine rv (mT (a:=stem) (by omega)) (rv (gM (by rw [PySem.Str.length_append];omega)) ?_)
   rfl
  ·rw [List.filterMap_map]
   exact Nat.le_trans (List.length_filterMap_le _ _) (by rw [List.length_range,show sizeLine=16777216 from rfl];omega)
  ·walk_at "go"
   refine ⟨(List.range m.toNat).map fun (k:Nat)=>wordAt stem at_ first stride (k:Int),?_,by simp,fun w hw'=>?_,?_,S5.up (by omega),b2.trans (b3.trans (b4.trans b5))⟩
   ·rw [List.filterMap_map,List.map_map]
    congr 1
    exact congrFun (List.filterMap_eq_map (f:=D.str∘fun (k:Nat)=>wordAt stem at_ first stride (k:Int))) _
   ·obtain ⟨k,_,rfl⟩:=List.mem_map.mp hw'
    exact hw k
   ·rw [List.nodup_iff_pairwise_ne,List.pairwise_map]
    refine (List.nodup_range (n:=m.toNat)).imp_of_mem fun {a b} ha hb hab e=>hab ?_
    have:=List.mem_range.mp ha
    have:=List.mem_range.mp hb
    exact p0 tm (by omega) (by omega) e
end Mi
namespace Mi
open PySem Sm L2
theorem But.app {s:Nat} {hb h2:MH} {o:MO} (b:But s (hb++[o]) h2) (hs:s < hb.length):∃hb',h2=hb'++[o]∧But s hb hb':=by
 have hl:h2.length=hb.length+1:=by rw [b.1];simp
 refine ⟨h2.take hb.length,?_,by rw [List.length_take];omega,fun k hk=>?_⟩
 ·refine List.ext_getElem? fun k=>?_
  by_cases z:k < hb.length
  ·rw [List.getElem?_append_left (by rw [List.length_take];omega),List.getElem?_take_of_lt z]
  ·by_cases z2:k=hb.length
   ·subst z2
    rw [b.2 _ (by omega),List.getElem?_append_right (Nat.le_refl _),List.getElem?_append_right (by rw [List.length_take];omega),List.length_take]
    rw [show min hb.length h2.length=hb.length by omega]
   ·rw [List.getElem?_eq_none (by omega),List.getElem?_eq_none (by rw [List.length_append,List.length_take];simp;omega)]
 ·by_cases z:k < hb.length
  ·rw [List.getElem?_take_of_lt z,b.2 k hk,List.getElem?_append_left z]
  ·rw [List.getElem?_eq_none (by rw [List.length_take];omega),List.getElem?_eq_none (by omega)]
theorem St.cut {s c:Nat} {cs:List Int} {B:Nat} {hb g:MH} (S:Mi.St s c cs B (hb++g)) (h1:s < hb.length) (h2:c < hb.length):Mi.St s c cs B hb:=by
 obtain ⟨n,t,e,r⟩:=S.st
 have e2:=S.ce
 rw [List.getElem?_append_left h1] at e
 rw [List.getElem?_append_left h2] at e2
 exact ⟨⟨n,t,e,r⟩,e2,S.ne⟩
def Cl (h:MH):Prop:=∀o∈h,clO h.length o=true
theorem lO (n:Nat):∀js:List Int,clL n (js.map D.int)=true
 | []=>rfl
 | j::r=>by rw [List.map_cons];show (clD n (.int _)&&clL n _)=true;rw [lO n r];rfl
theorem Cl.but {s c:Nat} {cs:List Int} {B:Nat} {h h':MH} (C:Cl h) (S:Mi.St s c cs B h') (b:But s h h'):Cl h':=by
 intro o ho
 obtain ⟨k,hk⟩:=List.mem_iff_getElem?.mp ho
 by_cases z:k=s
 ·subst z
  obtain ⟨n,t,e,_⟩:=S.st
  rw [e] at hk
  cases hk
  show (true&&(decide (c < h'.length)&&(true&&true)))=true
  rw [decide_eq_true S.lt.2];rfl
 ·rw [b.2 k z] at hk
  rw [b.1]
  exact C o (List.mem_of_getElem? hk)
theorem eZ {h hb g:MH} {d:D} (hl:hb.length=h.length) (C:Cl hb) (h1:∀n,d≠.ob n) (h2:clD h.length d=true):leave h d (hb++g)=some (d,hb):=by
 have h3:p6 h.length (hb++g) d=d:=by
  cases d with
  | ob n=>exact absurd rfl (h1 n)
  | _=>rfl
 unfold leave
 rw [h3,←hl,List.take_append_of_le_length (Nat.le_refl _),List.take_length,hl,h2]
 have:(hb.all (clO h.length))=true:=by
  rw [List.all_eq_true]
  intro o ho
  rw [←hl]
  exact C o ho
 rw [this,Bool.or_true]
 rfl
theorem Cl.add {h:MH} (C:Cl h) {o:MO} (ho:clO (h.length+1) o=true) (up:∀o∈h,clO h.length o=true→clO (h.length+1) o=true):Cl (h++[o]):=by
 intro x hx
 rw [List.length_append,List.length_singleton]
 rcases List.mem_append.mp hx with z | z
 ·exact up x z (C x z)
 ·rw [List.mem_singleton.mp z];exact ho
mutual
theorem rA {n m:Nat} (hm:n≤m):∀d:D,clD n d=true→clD m d=true
 | .non,_=>rfl
 | .bl _,_=>rfl
 | .int _,_=>rfl
 | .str _,_=>rfl
 | .ty _,_=>rfl
 | .ob k,h=>by simp only [clD,decide_eq_true_eq] at h ⊢;omega
 | .tup xs,h=>by simp only [clD] at h ⊢;exact ji hm xs h
 | .lv xs,h=>by simp only [clD] at h ⊢;exact ji hm xs h
 | .ro xs,h=>by simp only [clD] at h ⊢;exact ji hm xs h
 | .dv xs,h=>by simp only [clD] at h ⊢;exact oj hm xs h
theorem ji {n m:Nat} (hm:n≤m):∀d:List D,clL n d=true→clL m d=true
 | [],_=>rfl
 | x::r,h=>by
  simp only [clL,Bool.and_eq_true] at h ⊢
  exact ⟨rA hm x h.1,ji hm r h.2⟩
theorem oj {n m:Nat} (hm:n≤m):∀d:List (Key×D),clK n d=true→clK m d=true
 | [],_=>rfl
 | (_,x)::r,h=>by
  simp only [clK,Bool.and_eq_true] at h ⊢
  exact ⟨rA hm x h.1,oj hm r h.2⟩
end
theorem wx {n m:Nat} (hm:n≤m) (o:MO) (h:clO n o=true):clO m o=true:=by
 cases o with
 | lst xs=>exact ji hm xs h
 | dct xs=>exact oj hm xs h
theorem Cl.snoc {h:MH} (C:Cl h) {o:MO} (ho:clO (h.length+1) o=true):Cl (h++[o]):=C.add ho fun x _ z=>wx (Nat.le_succ _) x z
theorem Cl.set {h:MH} (C:Cl h) {n:Nat} {o:MO} (ho:clO h.length o=true):Cl (h.set n o):=by
 intro x hx
 rw [List.length_set]
 rcases List.mem_or_eq_of_mem_set hx with z | z
 ·exact C x z
 ·rw [z];exact ho
end Mi
namespace Mi
open PySem Sm L2 Pg
def wdO (W:Wd) (fl:List Int) (left odd:Int):MO:=.dct [(.inr (Str.ofString "names"),.lv (W.names.map D.str)),(.inr (Str.ofString "deeds"),.lv (W.deeds.map D.str)),(.inr (Str.ofString "params"),.lv (W.params.map fun ps=>.lv (ps.map D.str))),(.inr (Str.ofString "floors"),.lv (fl.map D.int)),(.inr (Str.ofString "left"),.int left),(.inr (Str.ofString "odd"),.int odd)]
structure WdOk (W:Wd) (fl:List Int) (odd:Int):Prop where
 n1:1≤W.names.length
 n2:W.names.length≤6
 d1:1≤W.deeds.length
 d2:W.deeds.length≤6
 pl:W.params.length=W.deeds.length
 p3:∀ps∈W.params,ps.length≤3
 fln:fl.length=W.deeds.length
 f0:∀f∈fl,0≤f∧f < W.names.length
 o0:0≤odd
 o1:odd≤1000
 sn:∀w∈W.names,1≤w.length∧w.length≤7∧low w
 sd:∀w∈W.deeds,1≤w.length∧w.length≤7∧low w
 sp:∀ps∈W.params,∀w∈ps,1≤w.length∧w.length≤7∧low w
 nn:W.names.Nodup
 nd:W.deeds.Nodup
 np:∀ps∈W.params,ps.Nodup
section
variable {h:MH} {wd:Nat} {W:Wd} {fl:List Int} {left odd:Int}
theorem cq (hw:h[wd]?=some (wdO W fl left odd)):fIx (.ob wd) (.str (Str.ofString "names")) h=some (.lv (W.names.map D.str),h):=by simp only [fIx,cn,hw,wdO];rfl
theorem cu (hw:h[wd]?=some (wdO W fl left odd)):fIx (.ob wd) (.str (Str.ofString "deeds")) h=some (.lv (W.deeds.map D.str),h):=by simp only [fIx,cn,hw,wdO];rfl
theorem bW (hw:h[wd]?=some (wdO W fl left odd)):fIx (.ob wd) (.str (Str.ofString "params")) h=some (.lv (W.params.map fun ps=>.lv (ps.map D.str)),h):=by simp only [fIx,cn,hw,wdO];rfl
theorem gw (hw:h[wd]?=some (wdO W fl left odd)):fIx (.ob wd) (.str (Str.ofString "floors")) h=some (.lv (fl.map D.int),h):=by simp only [fIx,cn,hw,wdO];rfl
theorem ic (hw:h[wd]?=some (wdO W fl left odd)):fIx (.ob wd) (.str (Str.ofString "left")) h=some (.int left,h):=by simp only [fIx,cn,hw,wdO];rfl
theorem ny (hw:h[wd]?=some (wdO W fl left odd)):fIx (.ob wd) (.str (Str.ofString "odd")) h=some (.int odd,h):=by simp only [fIx,cn,hw,wdO];rfl
theorem p4 (hw:h[wd]?=some (wdO W fl left odd)) (v:Int):jI (.ob wd) (.str (Str.ofString "left")) (.int v) h=some (h.set wd (wdO W fl v odd)):=by
 have h1:(6:Nat) < sizeLine:=by decide
 simp only [jI,hw,wdO,iY,Option.bind_some,List.length_cons,List.length_nil]
 rw [if_pos h1]
 rfl
end
theorem fM {h:MH} {s c wd:Nat} {cs:List Int} {B:Nat} {W:Wd} {fl:List Int} {left odd:Int} (S:Mi.St s c cs B h) (hB:B+10 < 2^60) (hw:h[wd]?=some (wdO W fl left odd)) (ok:WdOk W fl odd):
  Rn (bg [.ob s,.ob wd] h) fun p=>∃b:Bool,p.1=.bl b∧Mi.St s c cs (B+1) p.2∧But s h p.2:=by
 refine cO ?_
 walk_at "run"
 refine rv (ny hw) ?_
 walk_at "run"
 refine ⟨_,rfl,fun z=>?_,fun z=>?_⟩
 ·have z:0 < odd:=by simpa using z
  walk_at "run"
  refine rv (ny hw) ?_
  walk_at "run"
  obtain ⟨⟨_,h1⟩,e1,m,rfl,m0,m1,S1,b1⟩:=aX (m:=odd) S (by omega) z (by have:=ok.o1;omega)
  refine rv e1 ?_
  walk_at "run"
  exact ⟨_,rfl,S1,b1⟩
 ·walk_at "run"
  exact ⟨_,rfl,S.up (by omega),But.refl _ _⟩
theorem bU {P:Int→Prop} {xs:List Int} {d:D} (h:d∈xs.map D.int) (hx:∀x∈xs,P x):∃i,d=.int i∧P i:=by
 obtain ⟨i,hi,rfl⟩:=List.mem_map.mp h
 exact ⟨i,rfl,hx i hi⟩
theorem cF {h:MH} {s c:Nat} {cs:List Int} {B:Nat} {ps:List Str} (S:Mi.St s c cs B h) (hB:B+10 < 2^60) (hp:ps.length≤3):
  Rn (aT [.ob s,.lv (ps.map D.str)] h) fun p=>∃t:Term,p.1=aY t∧c7 ps t∧t.2≤40∧Mi.St s c cs (B+4) p.2∧But s h p.2:=by
 refine cO ?_
 walk_at "run"
 obtain ⟨⟨_,h1⟩,e1,m,rfl,m0,m1,S1,b1⟩:=aX (m:=81) S (by omega) (by decide) (by decide)
 refine rv e1 ?_
 walk_at "run"
 have plain:∀(h2:MH),Mi.St s c cs (B+2) h2→But s h h2→Rn (aw [.ob s,.lv [.int 0,.int 0,.int 1,.int 1,.int 2,.int 3,.int (-1),.int (m-40)]] h2) fun p=>∃i:Int,p.1=.int i∧-40≤i∧i≤40∧Mi.St s c cs (B+3) p.2∧But s h p.2:=fun h2 S2 b2=>by
  obtain ⟨⟨d,h3⟩,e3,hd,S3,b3⟩:=a9 (d:=.lv ([0,0,1,1,2,3,-1,m-40].map D.int)) S2 (by omega) (.inl rfl) (by simp) (by simp)
  obtain ⟨i,rfl,hi⟩:=bU (P:=fun i=>-40≤i∧i≤40) hd (by intro x hx;simp at hx;omega)
  exact rv e3 ⟨i,rfl,hi.1,hi.2,S3,b2.trans b3⟩
 refine ⟨_,rfl,fun z=>?_,fun z=>?_⟩
 ·have z:0 < ps.length:=by simpa using z
  walk_at "run"
  obtain ⟨⟨_,h2⟩,e2,m2,rfl,_,_,S2,b2⟩:=aX (m:=5) S1 (by omega) (by decide) (by decide)
  refine rv e2 ?_
  walk_at "run"
  refine ⟨_,rfl,fun _=>?_,fun _=>?_⟩
  ·walk_at "run"
   obtain ⟨⟨d3,h3⟩,e3,hd3,S3,b3⟩:=a9 (d:=.lv (ps.map D.str)) S2 (by omega) (.inl rfl) (by simpa using z) (by simp;omega)
   refine rv e3 ?_
   obtain ⟨w,hw,rfl⟩:=List.mem_map.mp hd3
   walk_at "run"
   obtain ⟨⟨d4,h4⟩,e4,hd4,S4,b4⟩:=a9 (d:=.lv ([0,0,0,0,1,1,-1,2,m-40].map D.int)) S3 (by omega) (.inl rfl) (by simp) (by simp)
   obtain ⟨i,rfl,hi⟩:=bU (P:=fun i=>-40≤i∧i≤40) hd4 (by intro x hx;simp at hx;omega)
   refine rv e4 ?_
   walk_at "run"
   exact ⟨(w,i),rfl,⟨.inr hw,by dsimp only;omega,by dsimp only;omega⟩,hi.2,S4.up (by omega),b1.trans (b2.trans (b3.trans b4))⟩
  ·walk_at "run"
   obtain ⟨⟨d,h3⟩,e3,i,hd,i0,i1,S3,b3⟩:=plain h2 (S2.up (by omega)) (b1.trans b2)
   refine rv e3 ?_
   dsimp only at hd
   subst hd
   walk_at "run"
   exact ⟨(Str.ofString "",i),rfl,⟨.inl rfl,by dsimp only;omega,by dsimp only;omega⟩,i1,S3.up (by omega),b3⟩
 ·refine ⟨fun z=>(nomatch z),fun _=>?_⟩
  walk_at "run"
  obtain ⟨⟨d,h3⟩,e3,i,hd,i0,i1,S3,b3⟩:=plain h1 (S1.up (by omega)) b1
  refine rv e3 ?_
  dsimp only at hd
  subst hd
  walk_at "run"
  exact ⟨(Str.ofString "",i),rfl,⟨.inl rfl,by dsimp only;omega,by dsimp only;omega⟩,i1,S3.up (by omega),b3⟩
end Mi
namespace Mi
open PySem Sm L2 Pg
theorem bF {α:Type} {xs:List α} {f:α→D} {h:MH} {j:Nat} {x:α} (e:xs[j]?=some x):fIx (.lv (xs.map f)) (.int j) h=some (f x,h):=by
 have hj:j < xs.length:=by
  rcases Nat.lt_or_ge j xs.length with z | z
  ·exact z
  ·rw [List.getElem?_eq_none z] at e;cases e
 show ((atI (xs.map f) j).map fun z=>(z,h))=_
 have:atI (xs.map f) j=some (f x):=by
  unfold atI
  rw [show ixN (xs.map f).length j=some j by unfold ixN;simp;omega]
  show (xs.map f)[j]?=_
  rw [List.getElem?_map,e];rfl
 rw [this];rfl
theorem gk (i j:Int) (h:MH):lL [.int i,.int j] h=some (.int (max i j),h):=by
 show some (D.int (if j > i then j else i),h)=_
 rw [show (if j > i then j else i)=max i j by split <;> omega]
theorem tQ (i j:Int) (h:MH):qW [.int i,.int j] h=some (.int (min i j),h):=by
 show some (D.int (if j < i then j else i),h)=_
 rw [show (if j < i then j else i)=min i j by split <;> omega]
theorem oP {α:Type} {o:Option Bool} {x y:Option α} {X Y:α→Prop} (r:∃c,o=some c∧(c=true→Rn x Y)∧(c=false→Rn y Y)) (f:∀p,Y p→X p):∃c,o=some c∧(c=true→Rn x X)∧(c=false→Rn y X):=
 let ⟨c,e,a,b⟩:=r
 ⟨c,e,fun z=>(a z).imp f,fun z=>(b z).imp f⟩
def ix (t:Term):PyData:=.tuple [.str t.1,.int t.2]
theorem j2:∀ts:List Term,pyL (ts.map aY)=some (ts.map ix)
 | []=>rfl
 | c::r=>by simp only [List.map_cons,pyL,j2 r,aY,pyD,Option.bind_some,Option.map_some];rfl
theorem gZ:∀ts:List Term,PyData.depthAll (ts.map ix)≤1
 | []=>by simp [PyData.depthAll]
 | c::r=>by
  have:=gZ r
  simp only [List.map_cons,PyData.depthAll,ix,PyData.depth]
  omega
theorem nT (ts:List Term) (h:MH):fv (.lv (ts.map aY)) (.lv []) h=some (.bl (!ts.isEmpty),h):=by
 have:=gZ ts
 simp only [fv,eqA,cn,eqD,rdD,j2,pyD,pyL,Option.map_some,Option.bind_some]
 rw [if_pos ⟨show PyData.depthAll _+1≤64 by omega,by decide⟩]
 cases ts <;> rfl
theorem j9 {h:MH} {s c wd:Nat} {cs:List Int} {B:Nat} {W:Wd} {fl:List Int} {left odd:Int} {ps:List Str} {j:Nat} {top:Int} {held:List Lock} (S:Mi.St s c cs B h) (hB:B+20 < 2^60) (hw:h[wd]?=some (wdO W fl left odd)) (hne:wd≠s) (ok:WdOk W fl odd) (hp:W.params[j]?=some ps) (hj:j < W.deeds.length) (ht:top≤W.names.length) (hh:∀l∈held,cH W ps l) (hl:held.length≤1000):
  Rn (cm [.ob s,.ob wd,.int j,.int top,.lv (held.map aH)] h) fun p=>((∃(k:Int) (l:Lock),p.1=.tup [.int k,aH l]∧max top (fl[j]?.getD 0) < W.names.length∧0≤k∧k < W.names.length∧cH W ps l)∨(p.1=.tup [.non,.non]∧max top (fl[j]?.getD 0)=W.names.length))∧Mi.St s c cs (B+10) p.2∧But s h p.2:=by
 obtain ⟨f,hf⟩:∃f,fl[j]?=some f:=⟨_,List.getElem?_eq_getElem (by rw [ok.fln];exact hj)⟩
 have hfm:=ok.f0 f (List.mem_of_getElem? hf)
 rw [hf]
 dsimp only [Option.getD_some]
 refine cO ?_
 walk_at "run"
 refine rv (gw hw) ?_
 walk_at "run"
 refine rv (bF hf) ?_
 walk_at "run"
 refine rv (gk top f h) ?_
 have lo0:0≤max top f:=by omega
 have lo1:max top f≤W.names.length:=by omega
 generalize max top f=lo at lo0 lo1 ⊢
 walk_at "run"
 refine rv (cq hw) ?_
 walk_at "run"
 refine ⟨_,rfl,fun z=>?_,fun z=>?_⟩
 ·have z:lo=W.names.length:=by simpa using z
  walk_at "run"
  exact ⟨.inr ⟨rfl,z⟩,S.up (by omega),But.refl _ _⟩
 have z:lo≠W.names.length:=by simpa using z
 have z0:lo < W.names.length:=by omega
 walk_at "run"
 refine rv (cq hw) ?_
 walk_at "run"
 obtain ⟨⟨_,h1⟩,e1,m,rfl,m0,m1,S1,b1⟩:=aX (m:=W.names.length-lo) S (by omega) (by omega) (by have:=ok.n2;omega)
 simp only [List.length_map]
 refine rv e1 ?_
 have hw1:=(b1.2 wd hne).trans hw
 walk_at "run"
 obtain ⟨⟨_,h2⟩,e2,b,rfl,S2,b2⟩:=fM S1 (by omega) hw1 ok
 refine rv e2 ?_
 have hw2:=(b2.2 wd hne).trans hw1
 walk_at "run"
 refine oP (Y:=fun r=>∃(k:Int) (h3:MH),r=(Fl.nx,[some (.ob s),some (.ob wd),some (.int j),some (.int top),some (.lv (held.map aH)),some (.int lo),some (.int k),none,none,none,none],h3)∧0≤k∧k < W.names.length∧Mi.St s c cs (B+3) h3∧But s h h3) ?_ ?_
 ·refine ⟨b,rfl,fun _=>?_,fun _=>?_⟩
  ·walk_at "run"
   refine rv (cq hw2) ?_
   walk_at "run"
   obtain ⟨⟨_,h3⟩,e3,k,rfl,k0,k1,S3,b3⟩:=aX (m:=W.names.length) S2 (by omega) (by omega) (by have:=ok.n2;omega)
   simp only [List.length_map]
   refine rv e3 ?_
   exact ⟨k,h3,rfl,k0,k1,S3,b1.trans (b2.trans b3)⟩
  ·walk_at "run"
   exact ⟨lo+m,h2,rfl,by omega,by omega,S2.up (by omega),b1.trans b2⟩
 rintro _ ⟨k,h3,rfl,k0,k1,S3,b3⟩
 have hw3:=(b3.2 wd hne).trans hw
 obtain ⟨kn,rfl⟩:=Int.eq_ofNat_of_zero_le k0
 have hkn:kn < W.names.length:=by omega
 obtain ⟨nm,hnm⟩:∃f,W.names[kn]?=some f:=⟨_,List.getElem?_eq_getElem hkn⟩
 show Rn _ _
 walk_at "run"
 refine rv (cq hw3) ?_
 walk_at "run"
 refine rv (bF hnm) ?_
 walk_at "run"
 refine eU ?_
 walk_at "run"
 refine ⟨_,_,rfl,?_⟩
 obtain ⟨⟨ys,h4⟩,e4,hyl,hym,δ4,hh4,_⟩:=ik (ws:=[]) (g:=gN 0) (c:=aR (eOp cP (eOp fIx (af 0) (eK (D.int 0))) (af 1))) (e:=eOp fIx (af 0) (eK (D.int 1))) (fun x y=>∃l∈held,x=aH l∧y=aY l.2)
  (xs:=held.map aH) (δ:=[none,some (.str nm)]) (h:=h3) (fun j δ h'=>h'=h3∧∃d0,δ=[d0,some (.str nm)]) ⟨rfl,_,rfl⟩ (fun _ _ _ _ _=>rfl) (by
   rintro i x δ h' hx ⟨rfl,d0,rfl⟩
   obtain ⟨l,hl,rfl⟩:=List.mem_map.mp (List.mem_of_getElem? hx)
   walk_at "run"
   refine rv (a:=(.str l.1,_)) rfl ?_
   walk_at "run"
   refine ⟨_,rfl,fun _=>?_,fun _=>⟨rfl,_,rfl⟩⟩
   walk_at "run"
   refine rv (a:=(aY l.2,_)) rfl ?_
   exact ⟨⟨l,hl,rfl,rfl⟩,rfl,_,rfl⟩)
 dsimp only at hh4
 subst hh4
 refine rv e4 ⟨Nat.le_trans hyl (by rw [List.length_map,show sizeLine=16777216 from rfl];omega),?_⟩
 obtain ⟨ts,rfl,htm⟩:∃ts:List Term,ys=ts.map aY∧∀t∈ts,c7 ps t:=by
  clear e4 hyl
  induction ys with
  | nil=>exact ⟨[],rfl,fun _ z=>(nomatch z)⟩
  | cons y r ih=>
   obtain ⟨js,rfl,h1⟩:=ih fun z hz=>hym z (List.mem_cons_of_mem _ hz)
   obtain ⟨x,hx,l,hl,rfl,rfl⟩:=hym y List.mem_cons_self
   exact ⟨l.2::js,rfl,fun j hj=>by
    rcases List.mem_cons.mp hj with rfl | hj
    ·exact (hh l hl).2
    ·exact h1 j hj⟩
 walk_at "run"
 refine rv (nT ts _) ?_
 have pl:=ok.p3 ps (List.mem_of_getElem? hp)
 refine ⟨_,rfl,fun z=>?_,fun z=>⟨fun z=>(nomatch z),fun _=>?_⟩⟩
 ·walk_at "run"
  obtain ⟨⟨_,h5⟩,e5,b',rfl,S5,b5⟩:=fM S3 (by omega) hw3 ok
  refine rv e5 ?_
  have hw5:=(b5.2 wd hne).trans hw3
  refine ⟨_,rfl,fun _=>?_,fun _=>?_⟩
  ·have hts:ts≠[]:=by rintro rfl;cases z
   obtain ⟨us,last,rfl⟩:∃us last,ts=us++[last]:=⟨ts.dropLast,ts.getLast hts,(List.dropLast_concat_getLast hts).symm⟩
   have hlast:=htm last (by simp)
   walk_at "run"
   refine rv (a:=(aY last,_)) (by
    show ((atI ((us++[last]).map aY) (-1)).map fun z=>(z,h5))=_
    rw [List.map_append]
    show ((atI (us.map aY++[aY last]) (-1)).map fun z=>(z,h5))=_
    rw [rH];rfl) ?_
   walk_at "run"
   refine rv (a:=_) rfl ?_
   walk_at "run"
   obtain ⟨⟨_,h6⟩,e6,m6,rfl,m60,m61,S6,b6⟩:=aX (m:=2) S5 (by omega) (by decide) (by decide)
   refine rv e6 ?_
   walk_at "run"
   refine rv (tQ _ _ _) ?_
   walk_at "run"
   exact ⟨.inl ⟨kn,(nm,(last.1,min 99 (last.2+1+m6))),rfl,z0,k0,k1,List.mem_of_getElem? hnm,hlast.1,by dsimp only;have:=hlast.2;omega,by dsimp only;omega⟩,S6.up (by omega),b3.trans (b5.trans b6)⟩
  ·walk_at "run"
   refine rv (bW hw5) ?_
   walk_at "run"
   refine rv (bF hp) ?_
   walk_at "run"
   obtain ⟨⟨_,h6⟩,e6,t,rfl,tk,_,S6,b6⟩:=cF (ps:=ps) S5 (by omega) pl
   refine rv e6 ?_
   walk_at "run"
   exact ⟨.inl ⟨kn,(nm,t),rfl,z0,k0,k1,List.mem_of_getElem? hnm,tk⟩,S6.up (by omega),((b3.trans b5)).trans b6⟩
 ·walk_at "run"
  refine rv (bW hw3) ?_
  walk_at "run"
  refine rv (bF hp) ?_
  walk_at "run"
  obtain ⟨⟨_,h6⟩,e6,t,rfl,tk,_,S6,b6⟩:=cF (ps:=ps) S3 (by omega) pl
  refine rv e6 ?_
  walk_at "run"
  exact ⟨.inl ⟨kn,(nm,t),rfl,z0,k0,k1,List.mem_of_getElem? hnm,tk⟩,S6.up (by omega),(b3).trans b6⟩
end Mi
namespace Mi
open PySem Sm L2 Pg
theorem mX (cs:List Int) (h:MH):cP (.lv (cs.map D.int)) (.lv []) h=some (.bl cs.isEmpty,h):=by
 simp only [cP,eqA,cn,eqD,rdD,iN,pyD,pyL,Option.map_some,Option.bind_some,PyData.depth,fN]
 cases cs <;> rfl
theorem u6 {m:AM} {δ:DS} {h:MH} {Q:List D×MH→Prop} (r:Rn (m δ h) fun p=>∃j:Int,p.1=[.int j]∧0≤j∧j≤1000∧Q ((List.range j.toNat).map fun (k:Nat)=>D.int (k:Int),p.2)):Rn (wB m δ h) Q:=aP (r.imp fun p ⟨j,e,h1,h2,q⟩=>by
 rw [e];dsimp only;rw [if_pos ⟨h1,h2⟩];exact ⟨_,rfl,q⟩)
theorem pT {h:MH} {s c wd:Nat} {cs:List Int} {B:Nat} {W:Wd} {fl:List Int} {left odd:Int} {ps:List Str} {j:Nat} {top:Int} (S:Mi.St s c cs B h) (hB:B+60 < 2^60) (hw:h[wd]?=some (wdO W fl left odd)) (hne:wd≠s) (ok:WdOk W fl odd) (hp:W.params[j]?=some ps) (hj:j < W.deeds.length):
  Rn (cR [.ob s,.ob wd,.int j,.int top] h) fun p=>∃r:Row,p.1=bp r∧(∀n,cj W ps n r)∧cnt r=1∧Mi.St s c cs (B+40) p.2∧But s h p.2:=by
 have d2:=ok.d2
 have pl:=ok.p3 ps (List.mem_of_getElem? hp)
 obtain ⟨dj,hdj⟩:∃f,W.deeds[j]?=some f:=⟨_,List.getElem?_eq_getElem hj⟩
 refine cO ?_
 walk_at "run"
 refine dZ ?_
 walk_at "run"
 refine rv (cu hw) ?_
 walk_at "run"
 refine ⟨(W.deeds.map D.str).length,rfl,by rw [List.length_map];omega,by rw [List.length_map];omega,?_⟩
 rw [List.length_map,Int.toNat_natCast]
 obtain ⟨⟨ys,h1⟩,e1,hyl,hym,δ1,hh1,_⟩:=ik (ws:=[]) (g:=gN 0) (c:=gz (aR (eOp fGt (eOp fIx (eOp fIx (af 3) (eK (.str "floors"))) (af 0)) (af 2))) (aR (eOp fGe (af 0) (af 1)))) (e:=af 0) (fun x y=>y=x)
  (xs:=(List.range W.deeds.length).map fun (k:Nat)=>D.int (k:Int)) (δ:=[none,some (.int j),some (.int top),some (.ob wd)]) (h:=h) (fun i δ h'=>h'=h∧∃d0,δ=[d0,some (.int j),some (.int top),some (.ob wd)]) ⟨rfl,_,rfl⟩ (fun _ _ _ _ _=>rfl) (by
   rintro i x δ h' hx ⟨rfl,d0,rfl⟩
   rw [List.getElem?_map] at hx
   obtain ⟨k,hk,hk2⟩:=Option.map_eq_some_iff.mp hx
   subst hk2
   have hkl:k < fl.length:=by rw [ok.fln];exact List.mem_range.mp (List.mem_of_getElem? hk)
   obtain ⟨f,hf⟩:∃f,fl[k]?=some f:=⟨_,List.getElem?_eq_getElem hkl⟩
   walk_at "run"
   refine rv (gw hw) ?_
   walk_at "run"
   refine rv (bF hf) ?_
   walk_at "run"
   refine ⟨_,rfl,fun _=>?_,fun _=>⟨fun z=>(nomatch z),fun _=>⟨rfl,_,rfl⟩⟩⟩
   walk_at "run"
   refine ⟨_,rfl,fun _=>?_,fun _=>⟨rfl,_,rfl⟩⟩
   walk_at "run"
   exact ⟨rfl,rfl,_,rfl⟩)
 dsimp only at hh1
 subst hh1
 refine rv e1 ⟨Nat.le_trans hyl (by rw [List.length_map,List.length_range,show sizeLine=16777216 from rfl];omega),?_⟩
 have hint:∀zs:List D,(∀y∈zs,∃x,x∈(List.range W.deeds.length).map (fun (k:Nat)=>D.int (k:Int))∧y=x)→∃js:List Int,zs=js.map D.int∧∀k∈js,0≤k∧k < W.deeds.length:=by
  intro zs hz
  induction zs with
  | nil=>exact ⟨[],rfl,fun _ z=>(nomatch z)⟩
  | cons y r ih=>
   obtain ⟨js,rfl,q⟩:=ih fun z hz'=>hz z (List.mem_cons_of_mem _ hz')
   obtain ⟨x,hx,rfl⟩:=hz y List.mem_cons_self
   obtain ⟨k,hk,rfl⟩:=List.mem_map.mp hx
   exact ⟨k::js,rfl,fun i hi=>by
    rcases List.mem_cons.mp hi with rfl | hi
    ·have:=List.mem_range.mp hk;omega
    ·exact q i hi⟩
 have hyn:ys.length≤6:=by
  have h9:ys.length≤_:=hyl
  rw [List.length_map,List.length_range] at h9
  omega
 obtain ⟨js,rfl,hjs⟩:=hint ys hym
 rw [List.length_map] at hyn
 walk_at "run"
 obtain ⟨⟨_,h2⟩,e2,b,rfl,S2,b2⟩:=fM S (by omega) hw ok
 refine rv e2 ?_
 have hw2:=(b2.2 wd hne).trans hw
 walk_at "run"
 refine oP (Y:=fun r=>∃(ks:List Int),r=(Fl.nx,[some (.ob s),some (.ob wd),some (.int j),some (.int top),some (.lv (ks.map D.int)),none,none],h2)∧ks.length≤6∧∀k∈ks,0≤k∧k < W.deeds.length) ?_ ?_
 ·refine ⟨b,rfl,fun _=>?_,fun _=>?_⟩
  ·walk_at "run"
   refine u6 ?_
   walk_at "run"
   refine rv (cu hw2) ?_
   walk_at "run"
   refine ⟨(W.deeds.map D.str).length,rfl,by rw [List.length_map];omega,by rw [List.length_map];omega,?_⟩
   rw [List.length_map,Int.toNat_natCast]
   obtain ⟨ks,hk1,hk2⟩:=hint _ fun y hy=>⟨y,hy,rfl⟩
   refine ⟨ks,?_,?_,hk2⟩
   ·show _=_
    rw [←hk1];rfl
   ·have:=congrArg List.length hk1
    rw [List.length_map,List.length_map,List.length_range] at this
    omega
  ·walk_at "run"
   exact ⟨js,rfl,hyn,hjs⟩
 rintro _ ⟨ks,rfl,kn,hks⟩
 show Rn _ _
 walk_at "run"
 refine rv (mX ks _) ⟨_,rfl,fun z=>?_,fun z=>?_⟩
 ·walk_at "run"
  refine rv (cu hw2) ?_
  walk_at "run"
  refine rv (bF hdj) ?_
  walk_at "run"
  exact ⟨.say dj,by rw [bp],fun n=>by unfold cj;exact List.mem_append_right _ (List.mem_of_getElem? hdj),by rw [cnt],S2.up (by omega),b2⟩
 have z0:0 < ks.length:=by cases ks with | nil=>cases z | cons _ _=>simp
 walk_at "run"
 obtain ⟨⟨d3,h3⟩,e3,hd3,S3,b3⟩:=a9 (d:=.lv (ks.map D.int)) S2 (by omega) (.inl rfl) (by simpa using z0) (by simp;omega)
 refine rv e3 ?_
 have hw3:=(b3.2 wd hne).trans hw2
 obtain ⟨k,hk,rfl⟩:=List.mem_map.mp hd3
 obtain ⟨k0,k1⟩:=hks k hk
 obtain ⟨kn',rfl⟩:=Int.eq_ofNat_of_zero_le k0
 have hkl:kn' < W.deeds.length:=by omega
 obtain ⟨dk,hdk⟩:∃f,W.deeds[kn']?=some f:=⟨_,List.getElem?_eq_getElem hkl⟩
 obtain ⟨qs,hqs⟩:∃f,W.params[kn']?=some f:=⟨_,List.getElem?_eq_getElem (by rw [ok.pl];exact hkl)⟩
 have ql:=ok.p3 qs (List.mem_of_getElem? hqs)
 walk_at "run"
 refine eU ?_
 walk_at "run"
 refine rv (bW hw3) ?_
 walk_at "run"
 refine rv (bF hqs) ?_
 refine ⟨_,_,rfl,?_⟩
 obtain ⟨⟨zs,h4⟩,e4,hzs,δ4,_,S4,b4⟩:=gc (ws:=[]) (g:=gN 0) (e:=eFn aT (ae (af 2) (ae (eOp fIx (eOp fIx (af 3) (eK (.str "params"))) (af 1)) ao))) (fun _ y=>∃t:Term,y=aY t∧c7 ps t)
  (xs:=qs.map D.str) (δ:=[none,some (.int j),some (.ob s),some (.ob wd)]) (h:=h3) (fun i δ h'=>(∃d0,δ=[d0,some (.int j),some (.ob s),some (.ob wd)])∧Mi.St s c cs (B+2+4*i) h'∧But s h3 h') ⟨⟨_,rfl⟩,S3,But.refl _ _⟩ (fun _ _ _ _ _=>rfl) (by
   rintro i x δ h' hx ⟨⟨d0,rfl⟩,Si,bi⟩
   have hi:i < 3:=by
    have:=(List.getElem?_eq_some_iff.mp hx).1
    rw [List.length_map] at this
    omega
   have hwi:=(bi.2 wd hne).trans hw3
   walk_at "run"
   refine rv (bW hwi) ?_
   walk_at "run"
   refine rv (bF hp) ?_
   walk_at "run"
   obtain ⟨⟨_,h6⟩,e6,t,rfl,tk,_,S6,b6⟩:=cF (ps:=ps) Si (by omega) pl
   refine rv e6 ?_
   exact ⟨⟨t,rfl,tk⟩,⟨_,rfl⟩,S6.up (by omega),bi.trans b6⟩)
 obtain ⟨ts,rfl,htm⟩:∃ts:List Term,zs=ts.map aY∧∀t∈ts,c7 ps t:=by
  have hr:=hzs.right
  clear e4 hzs S4 b4
  dsimp only at hr
  induction zs with
  | nil=>exact ⟨[],rfl,fun _ z=>(nomatch z)⟩
  | cons y r ih=>
   obtain ⟨js,rfl,h1⟩:=ih fun z hz=>hr z (List.mem_cons_of_mem _ hz)
   obtain ⟨x,hx,t,rfl,tk⟩:=hr y List.mem_cons_self
   exact ⟨t::js,rfl,fun j hj=>by
    rcases List.mem_cons.mp hj with rfl | hj
    ·exact tk
    ·exact h1 j hj⟩
 have hzl:=hzs.length
 dsimp only at hzl
 rw [List.length_map,List.length_map] at hzl
 refine rv e4 ⟨by dsimp only;rw [List.length_map,show sizeLine=16777216 from rfl];omega,?_⟩
 have hw4:=(b4.2 wd hne).trans hw3
 walk_at "run"
 refine rv (cu hw4) ?_
 walk_at "run"
 refine rv (bF hdk) ?_
 walk_at "run"
 refine rv (a:=(.tup (ts.map aY),_)) rfl ?_
 walk_at "run"
 exact ⟨.call dk ts,by rw [bp],fun n=>by unfold cj;exact ⟨⟨kn',qs,hdk,hqs,hzl⟩,htm⟩,by rw [cnt],S4.up (by simp;omega),b2.trans (b3.trans b4)⟩
end Mi
namespace Mi
open PySem Sm L2 Pg
def bQ (s wd:Nat) (h h':MH):Prop:=h'.length=h.length∧∀k,k≠s→k≠wd→h'[k]?=h[k]?
theorem bQ.refl (s wd:Nat) (h:MH):bQ s wd h h:=⟨rfl,fun _ _ _=>rfl⟩
theorem bQ.trans {s wd:Nat} {h h1 h2:MH} (a:bQ s wd h h1) (b:bQ s wd h1 h2):bQ s wd h h2:=⟨b.1.trans a.1,fun k n m=>(b.2 k n m).trans (a.2 k n m)⟩
theorem But.two {s wd:Nat} {h h1:MH} (a:But s h h1):bQ s wd h h1:=⟨a.1,fun k n _=>a.2 k n⟩
theorem bQ.set {s wd:Nat} {h:MH} {o:MO}:bQ s wd h (h.set wd o):=⟨List.length_set,fun k _ n=>List.getElem?_set_ne (Ne.symm n)⟩
theorem bQ.app {s wd:Nat} {hb h2:MH} {o:MO} (b:bQ s wd (hb++[o]) h2) (hs:s < hb.length) (hw:wd < hb.length):∃hb',h2=hb'++[o]∧bQ s wd hb hb':=by
 have hl:h2.length=hb.length+1:=by rw [b.1];simp
 refine ⟨h2.take hb.length,?_,by rw [List.length_take];omega,fun k hk hk'=>?_⟩
 ·refine List.ext_getElem? fun k=>?_
  by_cases z:k < hb.length
  ·rw [List.getElem?_append_left (by rw [List.length_take];omega),List.getElem?_take_of_lt z]
  ·by_cases z2:k=hb.length
   ·subst z2
    rw [b.2 _ (by omega) (by omega),List.getElem?_append_right (Nat.le_refl _),List.getElem?_append_right (by rw [List.length_take];omega),List.length_take]
    rw [show min hb.length h2.length=hb.length by omega]
   ·rw [List.getElem?_eq_none (by omega),List.getElem?_eq_none (by rw [List.length_append,List.length_take];simp;omega)]
 ·by_cases z:k < hb.length
  ·rw [List.getElem?_take_of_lt z,b.2 k hk hk',List.getElem?_append_left z]
  ·rw [List.getElem?_eq_none (by rw [List.length_take];omega),List.getElem?_eq_none (by omega)]
theorem dH (n:Nat):∀js:List Str,clL n (js.map D.str)=true
 | []=>rfl
 | j::r=>by rw [List.map_cons];show (clD n (.str _)&&clL n _)=true;rw [dH n r];rfl
theorem kj (n:Nat):∀js:List (List Str),clL n (js.map fun ps=>.lv (ps.map D.str))=true
 | []=>rfl
 | j::r=>by rw [List.map_cons];show (clL n (j.map D.str)&&clL n _)=true;rw [dH n j,kj n r];rfl
theorem rq (n:Nat) (W:Wd) (fl:List Int) (l odd:Int):clO n (wdO W fl l odd)=true:=by
 show (clL n _&&(clL n _&&(clL n _&&(clL n _&&(true&&(true&&true))))))=true
 rw [dH,dH,kj,lO];rfl
structure Sw (s c wd:Nat) (cs:List Int) (W:Wd) (fl:List Int) (odd:Int) (B:Nat) (l:Int) (h:MH):Prop where
 S:Mi.St s c cs B h
 w:h[wd]?=some (wdO W fl l odd)
 ne:wd≠s
 nc:wd≠c
section
variable {s c wd:Nat} {cs:List Int} {W:Wd} {fl:List Int} {odd:Int} {B B':Nat} {l:Int} {h h':MH}
theorem Sw.but (a:Sw s c wd cs W fl odd B l h) (S:Mi.St s c cs B' h') (b:But s h h'):Sw s c wd cs W fl odd B' l h':=⟨S,(b.2 wd a.ne).trans a.w,a.ne,a.nc⟩
theorem Sw.up (a:Sw s c wd cs W fl odd B l h) (hB:B≤B'):Sw s c wd cs W fl odd B' l h:=⟨a.S.up hB,a.w,a.ne,a.nc⟩
theorem Sw.lt (a:Sw s c wd cs W fl odd B l h):s < h.length∧c < h.length∧wd < h.length:=⟨a.S.lt.1,a.S.lt.2,(List.getElem?_eq_some_iff.mp a.w).1⟩
theorem Sw.set (a:Sw s c wd cs W fl odd B l h) (v:Int):Sw s c wd cs W fl odd B v (h.set wd (wdO W fl v odd)):=by
 obtain ⟨n,t,e,r⟩:=a.S.st
 exact ⟨⟨⟨n,t,by rw [List.getElem?_set_ne a.ne];exact e,r⟩,by rw [List.getElem?_set_ne a.nc];exact a.S.ce,a.S.ne⟩,by rw [List.getElem?_set_self a.lt.2.2],a.ne,a.nc⟩
theorem Sw.cut {g:MH} (a:Sw s c wd cs W fl odd B l (h++g)) (h1:s < h.length) (h2:c < h.length) (h3:wd < h.length):Sw s c wd cs W fl odd B l h:=
 ⟨a.S.cut h1 h2,by have:=a.w;rwa [List.getElem?_append_left h3] at this,a.ne,a.nc⟩
theorem Sw.more (a:Sw s c wd cs W fl odd B l h) (g:MH):Sw s c wd cs W fl odd B l (h++g):=⟨a.S.more g,by rw [List.getElem?_append_left a.lt.2.2];exact a.w,a.ne,a.nc⟩
theorem Cl.two (C:Cl h) (a:Sw s c wd cs W fl odd B l h') (b:bQ s wd h h'):Cl h':=by
 intro o ho
 obtain ⟨k,hk⟩:=List.mem_iff_getElem?.mp ho
 by_cases z:k=s
 ·subst z
  obtain ⟨n,t,e,_⟩:=a.S.st
  rw [e] at hk
  cases hk
  show (true&&(decide (c < h'.length)&&(true&&true)))=true
  rw [decide_eq_true a.lt.2.1];rfl
 ·by_cases z2:k=wd
  ·subst z2
   rw [a.w] at hk
   cases hk
   exact rq _ _ _ _ _
  ·rw [b.2 k z z2] at hk
   rw [b.1]
   exact C o (List.mem_of_getElem? hk)
def oy (s c wd:Nat) (cs:List Int) (W:Wd) (fl:List Int) (odd:Int) (f:Nat):Prop:=∀(h:MH) (B:Nat) (l:Int) (j:Nat) (ps:List Str) (d:Nat) (top:Int) (held:List Lock) (most:Int),
 Sw s c wd cs W fl odd B l h→Cl h→B+1000+100*l.toNat < 2^60→0≤l→W.params[j]?=some ps→j < W.deeds.length→1≤d→d≤5→3*(5-d)+2≤f→top≤W.names.length→(∀x∈held,cH W ps x)→held.length≤4*d→1≤most→most≤12→
 Rn (aS f [.ob s,.ob wd,.int j,.int d,.int top,.lv (held.map aH),.int most] h) fun p=>∃(lot:List Row) (l':Int),p.1=.tup (bh lot)∧bA W ps d lot∧lot.length≤12∧0≤l'∧l'+bC lot=l∧Sw s c wd cs W fl odd (B+4+100*bC lot) l' p.2∧bQ s wd h p.2
def wG (s c wd:Nat) (cs:List Int) (W:Wd) (fl:List Int) (odd:Int) (f:Nat):Prop:=∀(h:MH) (B:Nat) (l:Int) (j:Nat) (ps:List Str) (d:Nat) (top:Int) (held:List Lock),
 Sw s c wd cs W fl odd B l h→Cl h→B+1090+100*l.toNat < 2^60→0≤l→W.params[j]?=some ps→j < W.deeds.length→1≤d→d≤5→3*(5-d)+1≤f→top≤W.names.length→(∀x∈held,cH W ps x)→held.length≤4*d→
 Rn (cJ f [.ob s,.ob wd,.int j,.int d,.int top,.lv (held.map aH)] h) fun p=>∃(r:Row) (l':Int),p.1=bp r∧cj W ps d r∧0≤l'∧l'+cnt r=l+1∧Sw s c wd cs W fl odd (B+100*cnt r) l' p.2∧bQ s wd h p.2
end
end Mi
namespace Mi
open PySem Sm L2 Pg
theorem oI {len:Nat} {b:SM} {ds:List D} {h:MH} {Q:D×MH→Prop} (r:Rn (b (entry len ds) h) (sm fun p=>Rn (leave h p.1 p.2) Q)):Rn (mkL len b ds h) Q:=by
 obtain ⟨p,e,q⟩:=cO r
 obtain ⟨z,e2,k⟩:=q
 refine ⟨z,?_,k⟩
 have e:((b (entry len ds) h).bind so)=some p:=e
 show ((b (entry len ds) h).bind so).bind _=_
 rw [e]
 exact e2
theorem sC {isT:D→MH→Bool} {f:MFn} {o:EM} {m:AM} {δ:DS} {h:MH} {Q:D×MH→Prop} (r:Rn (o δ h) fun p=>isT p.1 p.2=true∧Rn (m δ p.2) fun q=>Rn (f p.1 q.1 q.2) Q):Rn (eM isT f o m δ h) Q:=
 aP (r.imp fun p ⟨e,r⟩=>by rw [if_pos e];exact aP r)
theorem gf {h:MH} {n:Nat} {xs:List D} (e:h[n]?=some (.lst xs)):fb (.ob n) h=true:=by unfold fb dD;dsimp only;rw [e];rfl
theorem eh {h:MH} {n:Nat} {xs:List D} {y:D} (e:h[n]?=some (.lst xs)) (hl:xs.length < sizeLine):di (.ob n) [y] h=some (.non,h.set n (.lst (xs++[y]))):=by unfold di;dsimp only;rw [e];dsimp only;rw [if_pos hl]
theorem lN (n:Nat) (t:Term):clD n (aY t)=true:=rfl
theorem ir (n:Nat) (t:Lock):clD n (aH t)=true:=rfl
theorem fO {α:Type} (n:Nat) (f:α→D) (hf:∀x,clD n (f x)=true):∀xs:List α,clL n (xs.map f)=true
 | []=>rfl
 | x::r=>by rw [List.map_cons];show (clD n (f x)&&clL n _)=true;rw [hf x,fO n f hf r];rfl
mutual
theorem gQ (n:Nat):∀r:Row,clD n (bp r)=true
 | .say w=>by rw [bp];rfl
 | .call d ts=>by rw [bp];show (true&&(true&&(clL n _&&true)))=true;rw [fO n _ (lN n)];rfl
 | .within l b=>by rw [bp];show (true&&(clD n (aH l)&&(clL n _&&true)))=true;rw [ir,cz n b];rfl
 | .all ls b=>by rw [bp];show (true&&(clL n _&&(clL n _&&true)))=true;rw [fO n _ (ir n),cz n b];rfl
 | .ask l b e=>by rw [bp];show (true&&(clD n (aH l)&&(clL n _&&(clL n _&&true))))=true;rw [ir,cz n b,cz n e];rfl
 | .by_ s t a b c=>by rw [bp];show (true&&(clD n (aY s)&&(clD n (aY t)&&(clL n _&&(clL n _&&(clL n _&&true))))))=true;rw [lN,lN,cz n a,cz n b,cz n c];rfl
 | .either a b=>by rw [bp];show (true&&(clL n _&&(clL n _&&true)))=true;rw [cz n a,cz n b];rfl
 | .again a=>by rw [bp];show (true&&(clL n _&&true))=true;rw [cz n a];rfl
theorem cz (n:Nat):∀r:List Row,clL n (bh r)=true
 | []=>by rw [bh];rfl
 | r::rs=>by rw [bh];show (clD n _&&clL n _)=true;rw [gQ n r,cz n rs];rfl
end
section
variable {s c wd:Nat} {cs:List Int} {W:Wd} {fl:List Int} {odd:Int}
theorem nM (ok:WdOk W fl odd) {f:Nat} (hr:wG s c wd cs W fl odd f):oy s c wd cs W fl odd (f+1):=by
 intro h B l j ps d top held most a C hB l0 hp hj d1 d5 hf ht hh hl m0 m1
 unfold aS
 refine oI ?_
 walk_at "run"
 refine dZ ?_
 walk_at "run"
 refine rv (a:=(.lv (List.replicate 15 (D.int most)),_)) rfl ?_
 walk_at "run"
 refine rv (a:=(.lv ((List.replicate 15 most++[12]).map D.int),_)) rfl ?_
 walk_at "run"
 obtain ⟨⟨d2,h2⟩,e2,hd2,S2,b2⟩:=a9 (d:=.lv ((List.replicate 15 most++[12]).map D.int)) (a.S.more [.lst []]) (by omega) (.inl rfl) (by simp) (by simp)
 obtain ⟨i,rfl,hi⟩:=bU (P:=fun i=>1≤i∧i≤12) hd2 (by intro x hx;simp at hx;omega)
 refine rv e2 ?_
 walk_at "run"
 obtain ⟨⟨_,h3⟩,e3,m,rfl,n0,n1,S3,b3⟩:=aX (m:=i+1) S2 (by omega) (by omega) (by omega)
 refine rv e3 ?_
 walk_at "run"
 obtain ⟨hb3,rfl,b3'⟩:=(b2.trans b3).app a.lt.1
 have a3:=(a.but (S3.cut (by rw [b3'.1];exact a.lt.1) (by rw [b3'.1];exact a.lt.2.1)) b3')
 refine ⟨m,rfl,by omega,by omega,?_⟩
 refine eV (fun i δ h'=>∃(lot:List Row) (l':Int) (d8:Option D) (hb:MH),δ=[some (.ob s),some (.ob wd),some (.int j),some (.int d),some (.int top),some (.lv (held.map aH)),some (.int most),some (.ob h.length),d8]∧h'=hb++[.lst (bh lot)]∧bA W ps d lot∧lot.length≤i∧0≤l'∧l'+bC lot=l∧Sw s c wd cs W fl odd (B+2+100*bC lot) l' hb∧bQ s wd h hb)
  ⟨[],l,_,hb3,rfl,by rw [bh],by unfold bA;trivial,Nat.le_refl _,l0,by simp [bC],by rw [bC];exact a3.up (by omega),b3'.two⟩ (fun _ _ _ _ _=>rfl) ?_ ?_
 ·rintro k x δ h' hx ⟨lot,l',d8,hb,rfl,rfl,okl,hll,l'0,hc,a4,b4⟩
  have hk:k < 12:=by
   have:=(List.getElem?_eq_some_iff.mp hx).1
   simp at this
   omega
  have hat:∀hb':MH,hb'.length=h.length→(hb'++[MO.lst (bh lot)])[h.length]?=some (.lst (bh lot)):=fun hb' e=>by rw [←e];simp
  have hwm:=(a4.more [MO.lst (bh lot)]).w
  walk_at "run"
  refine rv (ic hwm) ?_
  walk_at "run"
  refine ⟨_,rfl,fun z=>?_,fun z=>?_⟩
  ·have z:0 < l':=by simpa using z
   walk_at "run"
   refine rv (ic hwm) ?_
   walk_at "run"
   refine rv (p4 hwm (l'-1)) ?_
   walk_at "run"
   have lt4:=a4.lt
   rw [List.set_append_left _ _ lt4.2.2]
   have a5:=a4.set (l'-1)
   have b5:bQ s wd h (hb.set wd (wdO W fl (l'-1) odd)):=b4.trans bQ.set
   generalize hb.set wd (wdO W fl (l'-1) odd)=hb5 at a5 b5 ⊢
   have C5:=C.two a5 b5
   refine sC ?_
   walk_at "run"
   refine ⟨gf (hat hb5 b5.1),?_⟩
   walk_at "run"
   have hcl:0≤l'-1∧l'-1 < l+1:=by omega
   obtain ⟨⟨_,h6⟩,e6,r,l6,rfl,okr,l60,hc6,a6,b6⟩:=hr (hb5++[.lst (bh lot)]) (B+2+100*bC lot) (l'-1) j ps d top held (a5.more _) (C5.snoc (o:=.lst (bh lot)) (cz _ lot)) (by omega) (by omega) hp hj d1 d5 (by omega) ht hh hl
   dsimp only at hc6 a6 b6
   refine rv e6 ?_
   obtain ⟨hb6,rfl,b6'⟩:=b6.app a5.lt.1 a5.lt.2.2
   have lt5:=a5.lt
   have a6':=a6.cut (by rw [b6'.1];exact lt5.1) (by rw [b6'.1];exact lt5.2.1) (by rw [b6'.1];exact lt5.2.2)
   have hl6:hb6.length=h.length:=by rw [b6'.1,b5.1]
   walk_at "run"
   refine rv (eh (hat hb6 hl6) (by rw [gd,List.length_map,show sizeLine=16777216 from rfl];omega)) ?_
   walk_at "run"
   have hset:(hb6++[MO.lst (bh lot)]).set h.length (.lst (bh lot++[bp r]))=hb6++[.lst (bh (lot++[r]))]:=by
    rw [show h.length=hb6.length from hl6.symm,List.set_append_right _ _ (Nat.le_refl _),Nat.sub_self,gd,gd,List.map_append];rfl
   rw [hset]
   have hcn:bC (lot++[r])=bC lot+cnt r:=by rw [ni];simp [bC]
   exact ⟨lot++[r],l6,_,hb6,rfl,rfl,j5 okl (by unfold bA;exact ⟨okr,by unfold bA;trivial⟩),by simp;omega,l60,by rw [hcn];push_cast;omega,by rw [hcn];exact a6'.up (by omega),b5.trans b6'⟩
  ·walk_at "run"
   exact ⟨lot,l',_,hb,rfl,rfl,okl,by omega,l'0,hc,a4,b4⟩
 ·rintro δ h' ⟨lot,l',d8,hb,rfl,rfl,okl,hll,l'0,hc,a4,b4⟩
  rw [List.length_map,List.length_range] at hll
  have hat:(hb++[MO.lst (bh lot)])[h.length]?=some (.lst (bh lot)):=by rw [←b4.1];simp
  walk_at "run"
  refine rv (a:=(.tup (bh lot),hb++[.lst (bh lot)])) (by
   simp only [cI,bY,hat,Option.map_some]) ?_
  walk_at "run"
  exact rv (eZ b4.1 (C.two a4 b4) (fun n z=>(nomatch z)) (cz _ lot)) ⟨lot,l',rfl,okl,by omega,l'0,hc,a4.up (by omega),b4⟩
end
end Mi
namespace Mi
open PySem Sm L2 Pg
theorem oJ {ws:W} {g:GM} {e:EM}:∀{xs:List D} {δ:DS} {h:MH} (J:List D→DS→MH→Prop),J [] δ h→(∀ys δ h,J ys δ h→chk ws h=true)→
  (∀x ys δ h,x∈xs→ys.length < xs.length→J ys δ h→Rn (g x δ h) fun q=>Rn (e q.1 q.2) fun y=>J (ys++[y.1]) q.1 y.2)→Rn (b0 ws g fA e xs δ h) fun p=>p.1.length=xs.length∧∃δ',J p.1 δ' p.2
 | [],δ,h,J,hJ,hc,_=>by
  unfold b0
  rw [if_pos (hc [] δ h hJ)]
  exact ⟨_,rfl,rfl,δ,hJ⟩
 | x::xs,δ,h,J,hJ,hc,ht=>by
  unfold b0
  rw [if_pos (hc [] δ h hJ)]
  obtain ⟨⟨δ1,h1⟩,e1,⟨y,h2⟩,e2,J1⟩:=ht x [] δ h List.mem_cons_self (Nat.succ_pos _) hJ
  obtain ⟨⟨ys,h3⟩,e3,a,δ',J2⟩:=oJ (ws:=ws) (g:=g) (e:=e) (xs:=xs) (fun ys=>J (y::ys)) J1 (fun ys δ h=>hc (y::ys) δ h) fun x ys δ h hx hl=>ht x (y::ys) δ h (List.mem_cons_of_mem _ hx) (Nat.succ_lt_succ hl)
  refine ⟨(y::ys,h3),?_,congrArg Nat.succ a,δ',J2⟩
  rw [e1]
  dsimp only [Option.bind_some]
  show ((some (true,h1)).bind _)=_
  dsimp only [Option.bind_some] at e2 e3 ⊢
  rw [if_pos rfl,e2]
  dsimp only [Option.bind_some]
  rw [e3]
  rfl
theorem oS (r:Row):1≤cnt r:=by cases r <;> simp [cnt] <;> omega
theorem ja {α:Type} (f:α→D) (xs ys:List α) (h:MH) (hl:xs.length+ys.length≤1000):aV (.lv (xs.map f)) (.lv (ys.map f)) h=some (.lv ((xs++ys).map f),h):=by
 rw [List.map_append]
 simp only [aV,pM,dD,Option.bind_some,List.length_map]
 rw [if_pos (by rw [show sizeLine=16777216 from rfl];omega)]
theorem xu {t:TM} {x y:SM} {δ:DS} {h:MH} {Q:SQ} (P:Prop) [Decidable P] (e:Rn (t δ h) fun p=>p=(decide P,h)) (q1:P→Rn (x δ h) Q) (q2:¬P→Rn (y δ h) Q):Rn (sIf t x y δ h) Q:=by
 refine ud (e.imp ?_)
 rintro _ rfl
 exact ⟨fun z=>q1 (of_decide_eq_true z),fun z=>q2 (of_decide_eq_false z)⟩
theorem cX {t:TM} {x b:SM} {δ:DS} {h:MH} {Q:SQ} (P:Prop) [Decidable P] (e:Rn (t δ h) fun p=>p=(decide P,h)) (q1:P→Rn (x δ h) (jT b Q)) (q2:¬P→Rn (b δ h) Q):Rn (aB (sIf t x cD) b δ h) Q:=
 mC (xu P e q1 fun z=>⟨_,rfl,q2 z⟩)
theorem dT {P:Prop} [Decidable P] (p:P) (h:MH):(true,h)=(decide P,h):=by rw [decide_eq_true p]
theorem dF {P:Prop} [Decidable P] (p:¬P) (h:MH):(false,h)=(decide P,h):=by rw [decide_eq_false p]
section
variable {s c wd:Nat} {cs:List Int} {W:Wd} {fl:List Int} {odd:Int}
def rL (s c wd:Nat) (cs:List Int) (W:Wd) (fl:List Int) (odd:Int) (f:Nat):Prop:=∀(h:MH) (B:Nat) (l:Int) (j:Nat) (ps:List Str) (d:Nat) (top:Int) (held:List Lock) (way:Str),
 Sw s c wd cs W fl odd B l h→Cl h→B+1085+100*l.toNat < 2^60→0≤l→W.params[j]?=some ps→j < W.deeds.length→1≤d→d < 5→3*(5-d)≤f→top≤W.names.length→(∀x∈held,cH W ps x)→held.length≤4*d→way∈[Str.ofString "within",Str.ofString "ask",Str.ofString "all"]→
 Rn (bP f [.ob s,.ob wd,.int j,.int d,.int top,.lv (held.map aH),.str way] h) fun p=>∃(r:Row) (l':Int),p.1=bp r∧cj W ps d r∧0≤l'∧l'+cnt r=l+1∧Sw s c wd cs W fl odd (B+95+100*(cnt r-1)) l' p.2∧bQ s wd h p.2
def t7 (s c wd:Nat) (cs:List Int) (W:Wd) (fl:List Int) (odd:Int) (f:Nat):Prop:=∀(h:MH) (B:Nat) (l:Int) (j:Nat) (ps:List Str) (d:Nat) (top:Int) (held:List Lock),
 Sw s c wd cs W fl odd B l h→Cl h→B+1085+100*l.toNat < 2^60→5 < l→W.params[j]?=some ps→j < W.deeds.length→1≤d→d < 3→3*(5-d)≤f→top≤W.names.length→(∀x∈held,cH W ps x)→held.length≤4*d→
 Rn (bu f [.ob s,.ob wd,.int j,.int d,.int top,.lv (held.map aH)] h) fun p=>∃(r:Row) (l':Int),p.1=bp r∧cj W ps d r∧0≤l'∧l'+cnt r=l+1∧Sw s c wd cs W fl odd (B+95+100*(cnt r-1)) l' p.2∧bQ s wd h p.2
theorem j8 {f n:Nat} (hlot:oy s c wd cs W fl odd f) (hn:n≤3) {h:MH} {B:Nat} {l:Int} {j:Nat} {ps:List Str} {d:Nat} {top:Int} {held:List Lock}
  (a:Sw s c wd cs W fl odd B l h) (C:Cl h) (hB:B+1020+100*l.toNat < 2^60) (l0:0≤l) (hp:W.params[j]?=some ps) (hj:j < W.deeds.length) (d1:1≤d) (d5:d < 5) (hf:3*(5-d)≤f) (ht:top≤W.names.length) (hh:∀x∈held,cH W ps x) (hl:held.length≤4*d):
  Rn (b0 [] (gN 0) Sm.fA (eFn (aS f) (ae (af 4) (ae (af 6) (ae (af 1) (ae (eOp aV (af 2) (eK (.int 1))) (ae (af 5) (ae (af 3) (ae (eK (.int 2)) ao)))))))) ((List.range n).map fun (k:Nat)=>D.int k) [none,some (.int j),some (.int d),some (.lv (held.map aH)),some (.ob s),some (.int top),some (.ob wd)] h) fun p=>∃(lots:List (List Row)) (l':Int),p.1=lots.map (fun t=>D.tup (bh t))∧lots.length=n∧(∀t∈lots,t.length≤12∧bA W ps (d+1) t)∧0≤l'∧l'+((lots.map bC).sum:Nat)=l∧Sw s c wd cs W fl odd (B+4*n+100*(lots.map bC).sum) l' p.2∧bQ s wd h p.2:=by
 refine (oJ (ws:=[]) (fun ys δ h'=>∃(d0:Option D) (lots:List (List Row)) (l':Int),δ=[d0,some (.int j),some (.int d),some (.lv (held.map aH)),some (.ob s),some (.int top),some (.ob wd)]∧ys=lots.map (fun t=>D.tup (bh t))∧(∀t∈lots,t.length≤12∧bA W ps (d+1) t)∧0≤l'∧l'+((lots.map bC).sum:Nat)=l∧Sw s c wd cs W fl odd (B+4*lots.length+100*(lots.map bC).sum) l' h'∧bQ s wd h h') ⟨none,[],l,rfl,rfl,fun _ z=>(nomatch z),l0,by simp,a,bQ.refl _ _ _⟩ (fun _ _ _ _=>rfl) ?_).imp ?_
 ·rintro x _ δ h' hx hys ⟨d0,lots,l',rfl,rfl,hok,l'0,hc,a1,b1⟩
  rw [List.length_map,List.length_map,List.length_range] at hys
  walk_at "run"
  obtain ⟨⟨_,h2⟩,e2,lot,l2,rfl,okl,hll,l20,cr,a2,b2⟩:=hlot h' _ l' j ps (d+1) top held 2 a1 (C.two a1 b1) (by omega) l'0 hp hj (by omega) (by omega) (by omega) ht hh (by omega) (by decide) (by decide)
  rw [show ((d+1:Nat):Int)=(d:Int)+1 from rfl] at e2
  refine rv e2 ?_
  have hs:((lots++[lot]).map bC).sum=(lots.map bC).sum+bC lot:=by simp
  refine ⟨_,lots++[lot],l2,rfl,by rw [List.map_append];rfl,fun t z=>?_,l20,by rw [hs];push_cast;omega,?_,b1.trans b2⟩
  ·rcases List.mem_append.mp z with z | z
   ·exact hok t z
   ·rw [List.mem_singleton.mp z];exact ⟨hll,okl⟩
  ·rw [hs,List.length_append,List.length_singleton]
   exact a2.up (by omega)
 ·rintro ⟨ys,h2⟩ ⟨hy,_,d0,lots,l',_,he,hok,l'0,hc,a1,b1⟩
  dsimp only at hy he
  subst he
  rw [List.length_map,List.length_map,List.length_range] at hy
  exact ⟨lots,l',rfl,hy,hok,l'0,hc,a1.up (by omega),b1⟩
theorem uM (ok:WdOk W fl odd) {f:Nat} (hlot:oy s c wd cs W fl odd f) (hlk:rL s c wd cs W fl odd f) (htw:t7 s c wd cs W fl odd f):wG s c wd cs W fl odd (f+1):=by
 intro h B l j ps d top held a C hB l0 hp hj d1 d5 hf ht hh hl
 have pl:=ok.p3 ps (List.mem_of_getElem? hp)
 unfold cJ
 refine cO ?_
 walk_at "run"
 obtain ⟨⟨_,h1⟩,e1,w,rfl,w0,w1,S1,b1⟩:=aX (m:=16) a.S (by omega) (by decide) (by decide)
 refine rv e1 ?_
 have a1:=a.but S1 b1
 have C1:=C.but S1 b1
 dsimp only at a1 C1 b1
 have say:∀(Q:D×MH→Prop),(∀(wd':Str) (h2:MH),wd'∈W.names++W.deeds→Mi.St s c cs (B+2) h2→But s h1 h2→Q (.str wd',h2))→Rn (aw [.ob s,.lv ((W.names++W.deeds).map D.str)] h1) Q:=by
  intro Q hq
  obtain ⟨⟨d2,h2⟩,e2,hd2,S2,b2⟩:=a9 (d:=.lv ((W.names++W.deeds).map D.str)) S1 (by omega) (.inl rfl) (by have:=ok.n1;simp;omega) (by have:=ok.n2;have:=ok.d2;simp;omega)
  obtain ⟨w',hw',rfl⟩:=List.mem_map.mp hd2
  exact rv e2 (hq w' h2 hw' S2 b2)
 refine cX (w < 2∨(d=5∧w < 11)) ?_ (fun z=>?_) (fun z=>?_)
 ·walk_at "run"
  refine ⟨_,rfl,fun z=>?_,fun z=>?_⟩
  ·have z:w < 2:=by simpa using z
   exact dT (.inl z) _
  ·have z:¬w < 2:=by simpa using z
   walk_at "run"
   refine ⟨_,rfl,fun y=>?_,fun y=>?_⟩
   ·have y0:(d:Int)=5:=by simpa using y
    have y:d=5:=by omega
    walk_at "run"
    refine ⟨_,rfl,?_⟩
    rw [show decide (w < 11)=decide (w < 2∨(d=5∧w < 11)) from decide_eq_decide.mpr (by omega)]
   ·have y0:(d:Int)≠5:=by simpa using y
    have y:d≠5:=by omega
    exact dF (by omega) _
 ·walk_at "run"
  refine rv (cq a1.w) ?_
  walk_at "run"
  refine rv (cu a1.w) ?_
  walk_at "run"
  refine rv (ja D.str W.names W.deeds _ (by have:=ok.n2;have:=ok.d2;omega)) ?_
  walk_at "run"
  refine say _ fun w' h2 hw' S2 b2=>?_
  walk_at "run"
  exact ⟨.say w',l,by rw [bp],by unfold cj;exact hw',l0,by rw [cnt];rfl,a1.but (S2.up (by rw [cnt];omega)) b2,(b1.trans b2).two⟩
 have nd:d=5→11≤w:=by omega
 have w2:2≤w:=by omega
 refine cX (12 < w∨d=5) ?_ (fun z=>?_) (fun z=>?_)
 ·walk_at "run"
  refine ⟨_,rfl,fun y=>?_,fun y=>?_⟩
  ·have y:12 < w:=by simpa using y
   exact dT (.inl y) _
  ·have y:¬12 < w:=by simpa using y
   walk_at "run"
   refine ⟨_,rfl,?_⟩
   rw [show ((d:Int)==5)=decide (12 < w∨d=5) by
    rw [Bool.eq_iff_iff];simp only [beq_iff_eq,decide_eq_true_eq];omega]
 ·walk_at "run"
  obtain ⟨⟨_,h2⟩,e2,r,rfl,okr,cr,S2,b2⟩:=pT (top:=top) a1.S (by omega) a1.w a1.ne ok hp hj
  refine rv e2 ?_
  walk_at "run"
  exact ⟨r,l,rfl,okr d,l0,by rw [cr];rfl,a1.but (S2.up (by rw [cr];omega)) b2,(b1.trans b2).two⟩
 have d4:d < 5:=by omega
 refine cX (w=12∧d < 3∧5 < l) ?_ (fun z=>?_) (fun z=>?_)
 ·walk_at "run"
  refine ⟨_,rfl,fun y=>?_,fun y=>?_⟩
  ·have y:w=12:=by simpa using y
   walk_at "run"
   refine ⟨_,rfl,fun x=>?_,fun x=>?_⟩
   ·have x0:(d:Int) < 3:=by simpa using x
    have x:d < 3:=by omega
    walk_at "run"
    refine rv (ic a1.w) ?_
    walk_at "run"
    refine ⟨_,rfl,?_⟩
    rw [show decide (5 < l)=decide (w=12∧d < 3∧5 < l) from decide_eq_decide.mpr (by omega)]
   ·have x0:¬(d:Int) < 3:=by simpa using x
    have x:¬d < 3:=by omega
    exact dF (by omega) _
  ·have y:w≠12:=by simpa using y
   exact dF (by omega) _
 ·walk_at "run"
  obtain ⟨⟨_,h2⟩,e2,r,l2,rfl,okr,l20,cr,a2,b2⟩:=htw h1 (B+1) l j ps d top held a1 C1 (by omega) z.2.2 hp hj d1 z.2.1 (by omega) ht hh hl
  refine rv e2 ?_
  walk_at "run"
  exact ⟨r,l2,rfl,okr,l20,cr,a2.up (by have:=oS r;omega),b1.two.trans b2⟩
 refine cX (w=11∨w=12) ?_ (fun z=>?_) (fun z=>?_)
 ·walk_at "run"
  refine ⟨_,rfl,fun y=>?_,fun y=>?_⟩
  ·have y:w=11:=by simpa using y
   exact dT (.inl y) _
  ·have y:w≠11:=by simpa using y
   walk_at "run"
   refine ⟨_,rfl,?_⟩
   rw [show (w==12)=decide (w=11∨w=12) by rw [Bool.eq_iff_iff];simp only [beq_iff_eq,decide_eq_true_eq];omega]
 ·show Rn (aB _ _ _ _) _
  walk_at "run"
  refine rv (bW a1.w) ?_
  walk_at "run"
  refine rv (bF hp) ?_
  walk_at "run"
  obtain ⟨⟨_,h2⟩,e2,t1,rfl,tk1,_,S2,b2⟩:=cF (ps:=ps) a1.S (by omega) pl
  refine rv e2 ?_
  have a2:=a1.but S2 b2
  walk_at "run"
  refine rv (bW a2.w) ?_
  walk_at "run"
  refine rv (bF hp) ?_
  walk_at "run"
  obtain ⟨⟨_,h3⟩,e3,t2,rfl,tk2,_,S3,b3⟩:=cF (ps:=ps) S2 (by omega) pl
  refine rv e3 ?_
  have a3:=a2.but S3 b3
  have C3:=(C1.but S2 b2).but S3 b3
  dsimp only at a3 C3 b2 b3
  walk_at "run"
  refine ⟨_,_,rfl,?_⟩
  walk_at "run"
  refine dZ ?_
  walk_at "run"
  refine ⟨3,rfl,by omega,by omega,?_⟩
  obtain ⟨⟨ys,h4⟩,e4,lots,l4,rfl,hn,hok,l40,cr,a4,b4⟩:=j8 (n:=3) hlot (by omega) a3 C3 (by omega) l0 hp hj d1 d4 (by omega) ht hh hl
  match lots,hn with
  | [x,y,v],_=>
   refine rv e4 ⟨by show 3≤sizeLine;decide,?_⟩
   walk_at "run"
   refine rv (a:=(.tup [.tup (bh x),.tup (bh y),.tup (bh v)],_)) rfl ?_
   walk_at "run"
   refine rv (a:=(.tup [.str "by",aY t1,aY t2,.tup (bh x),.tup (bh y),.tup (bh v)],_)) rfl ?_
   walk_at "run"
   simp only [List.map_cons,List.map_nil,List.sum_cons,List.sum_nil] at cr a4
   have hx:=hok x (by simp)
   have hy:=hok y (by simp)
   have hv:=hok v (by simp)
   exact ⟨.by_ t1 t2 x y v,l4,by rw [bp],by unfold cj;exact ⟨tk1,tk2,d4,hx.1,hy.1,hv.1,hx.2,hy.2,hv.2⟩,l40,by rw [cnt];push_cast at cr ⊢;omega,a4.up (by rw [cnt];omega),(b1.trans (b2.trans b3)).two.trans b4⟩
 refine cX (w=10) ?_ (fun z=>?_) (fun z=>?_)
 ·walk_at "run"
  refine ⟨_,rfl,?_⟩
  rw [show (w==10)=decide (w=10) by rw [Bool.eq_iff_iff];simp only [beq_iff_eq,decide_eq_true_eq]]
 ·walk_at "run"
  refine dZ ?_
  walk_at "run"
  refine ⟨2,rfl,by omega,by omega,?_⟩
  obtain ⟨⟨ys,h2⟩,e2,lots,l2,rfl,hn,hok,l20,cr,a2,b2⟩:=j8 (n:=2) hlot (by omega) a1 C1 (by omega) l0 hp hj d1 d4 (by omega) ht hh hl
  match lots,hn with
  | [x,y],_=>
   refine rv e2 ⟨by show 2≤sizeLine;decide,?_⟩
   walk_at "run"
   refine rv (a:=(.tup [.tup (bh x),.tup (bh y)],_)) rfl ?_
   walk_at "run"
   refine rv (a:=(.tup [.str "either",.tup (bh x),.tup (bh y)],_)) rfl ?_
   walk_at "run"
   simp only [List.map_cons,List.map_nil,List.sum_cons,List.sum_nil] at cr a2
   have hx:=hok x (by simp)
   have hy:=hok y (by simp)
   exact ⟨.either x y,l2,by rw [bp],by unfold cj;exact ⟨d4,hx.1,hy.1,hx.2,hy.2⟩,l20,by rw [cnt];push_cast at cr ⊢;omega,a2.up (by rw [cnt];omega),b1.two.trans b2⟩
 refine cX (w=9) ?_ (fun z=>?_) (fun z=>?_)
 ·walk_at "run"
  refine ⟨_,rfl,?_⟩
  rw [show (w==9)=decide (w=9) by rw [Bool.eq_iff_iff];simp only [beq_iff_eq,decide_eq_true_eq]]
 ·walk_at "run"
  obtain ⟨⟨_,h2⟩,e2,lot,l2,rfl,okl,hll,l20,cr,a2,b2⟩:=hlot h1 (B+1) l j ps (d+1) top held 2 a1 C1 (by omega) l0 hp hj (by omega) (by omega) (by omega) ht hh (by omega) (by decide) (by decide)
  rw [show ((d+1:Nat):Int)=(d:Int)+1 from rfl] at e2
  refine rv e2 ?_
  walk_at "run"
  exact ⟨.again lot,l2,by rw [bp],by unfold cj;exact ⟨d4,hll,okl⟩,l20,by rw [cnt];push_cast;omega,a2.up (by rw [cnt];omega),b1.two.trans b2⟩
 walk_at "run"
 obtain ⟨⟨d2,h2⟩,e2,hd2,S2,b2⟩:=a9 (d:=.lv ([Str.ofString "within",Str.ofString "within",Str.ofString "within",Str.ofString "within",Str.ofString "ask",Str.ofString "all"].map D.str)) S1 (by omega) (.inl rfl) (by simp) (by simp)
 obtain ⟨w',hw',rfl⟩:=List.mem_map.mp hd2
 refine rv e2 ?_
 walk_at "run"
 obtain ⟨⟨_,h3⟩,e3,r,l3,rfl,okr,l30,cr,a3,b3⟩:=hlk h2 (B+2) l j ps d top held w' (a1.but S2 b2) (C1.but S2 b2) (by omega) l0 hp hj d1 d4 (by omega) ht hh hl (by simp at hw' ⊢;omega)
 refine rv e3 ?_
 walk_at "run"
 exact ⟨r,l3,rfl,okr,l30,cr,a3.up (by have:=oS r;omega),(b1.trans b2).two.trans b3⟩
end
end Mi
namespace Mi
open PySem Sm L2 Pg
theorem But.t6 {s:Nat} {hb h2 g:MH} (b:But s (hb++g) h2) (hs:s < hb.length):∃hb',h2=hb'++g∧But s hb hb':=by
 have hl:h2.length=hb.length+g.length:=by rw [b.1];simp
 refine ⟨h2.take hb.length,?_,by rw [List.length_take];omega,fun k hk=>?_⟩
 ·refine List.ext_getElem? fun k=>?_
  by_cases z:k < hb.length
  ·rw [List.getElem?_append_left (by rw [List.length_take];omega),List.getElem?_take_of_lt z]
  ·rw [b.2 _ (by omega),List.getElem?_append_right (by omega),List.getElem?_append_right (by rw [List.length_take];omega),List.length_take]
   rw [show min hb.length h2.length=hb.length by omega]
 ·by_cases z:k < hb.length
  ·rw [List.getElem?_take_of_lt z,b.2 k hk,List.getElem?_append_left z]
  ·rw [List.getElem?_eq_none (by rw [List.length_take];omega),List.getElem?_eq_none (by omega)]
theorem bQ.t6 {s wd:Nat} {hb h2 g:MH} (b:bQ s wd (hb++g) h2) (hs:s < hb.length) (hw:wd < hb.length):∃hb',h2=hb'++g∧bQ s wd hb hb':=by
 have hl:h2.length=hb.length+g.length:=by rw [b.1];simp
 refine ⟨h2.take hb.length,?_,by rw [List.length_take];omega,fun k hk hk'=>?_⟩
 ·refine List.ext_getElem? fun k=>?_
  by_cases z:k < hb.length
  ·rw [List.getElem?_append_left (by rw [List.length_take];omega),List.getElem?_take_of_lt z]
  ·rw [b.2 _ (by omega) (by omega),List.getElem?_append_right (by omega),List.getElem?_append_right (by rw [List.length_take];omega),List.length_take]
   rw [show min hb.length h2.length=hb.length by omega]
 ·by_cases z:k < hb.length
  ·rw [List.getElem?_take_of_lt z,b.2 k hk hk',List.getElem?_append_left z]
  ·rw [List.getElem?_eq_none (by rw [List.length_take];omega),List.getElem?_eq_none (by omega)]
def cV (t:Lock):PyData:=.tuple [.str t.1,ix t.2]
theorem qr (t:Term):pyD (aY t)=some (ix t):=by simp only [aY,pyD,pyL,Option.bind_some,Option.map_some];rfl
theorem mD (t:Lock):pyD (aH t)=some (cV t):=by simp only [aH,pyD,pyL,qr,Option.bind_some,Option.map_some];rfl
theorem gI:∀ts:List Lock,pyL (ts.map aH)=some (ts.map cV)
 | []=>rfl
 | c::r=>by simp only [List.map_cons,pyL,gI r,mD,Option.bind_some,Option.map_some]
theorem du:∀ts:List Lock,PyData.depthAll (ts.map cV)≤2
 | []=>by simp [PyData.depthAll]
 | c::r=>by
  have:=du r
  simp only [List.map_cons,PyData.depthAll,cV,ix,PyData.depth]
  omega
theorem lJ {h:MH} {n:Nat} {ls:List Lock} (x:Lock) (e:h[n]?=some (.lst (ls.map aH))):lK (aH x) (.ob n) h=some (.bl (!(ls.map cV).any fun b=>PyData.eqv b (cV x)),h):=by
 have h1:=du ls
 have h2:=du [x]
 have h3:(cV x).depth≤60:=by
  simp only [List.map_cons,List.map_nil,PyData.depthAll] at h2
  omega
 unfold lK inD
 simp only [cn,e]
 show ((bY (.ob n) h).bind _).map _=_
 simp only [bY,e,Option.bind_some,gI]
 show (((rdD h (aH x)).bind _).map _)=_
 rw [show rdD h (aH x)=some (cV x) from mD x]
 dsimp only [Option.bind_some]
 rw [if_pos ⟨h3,by omega⟩]
 rfl
theorem u7 {ma mb:EM} {δ:DS} {h:MH} {Q:List D×MH→Prop} (r:Rn (ma δ h) fun p=>Rn (mb δ p.2) fun q=>∃xs ys,dD p.1 q.2=some xs∧dD q.1 q.2=some ys∧xs.length+ys.length≤sizeLine∧Q (xs++ys,q.2)):Rn (wC ma mb δ h) Q:=
 aP (r.imp fun p r=>aP (r.imp fun q ⟨xs,ys,e1,e2,hl,hq⟩=>⟨_,by rw [e1];dsimp only [Option.bind_some];rw [e2];dsimp only [Option.bind_some];rw [if_pos hl],hq⟩))
end Mi
namespace Mi
open PySem Sm L2 Pg
theorem ej {h hb:MH} {d:D} (hl:hb.length=h.length) (C:Cl hb) (h1:∀n,d≠.ob n) (h2:clD h.length d=true):leave h d hb=some (d,hb):=by
 have:=eZ (g:=[]) hl C h1 h2
 rwa [List.append_nil] at this
theorem qZ (x:Lock):PyData.eqv (cV x) (cV x)=true:=by
 simp [cV,ix,PyData.eqv,PyData.eqvAll]
section
variable {s c wd:Nat} {cs:List Int} {W:Wd} {fl:List Int} {odd:Int}
theorem pA (ok:WdOk W fl odd) {f:Nat} (hlot:oy s c wd cs W fl odd f):rL s c wd cs W fl odd (f+1):=by
 intro h B l j ps d top held way a C hB l0 hp hj d1 d5 hf ht hh hl hw
 have pl:=ok.p3 ps (List.mem_of_getElem? hp)
 obtain ⟨dj,hdj⟩:∃f,W.deeds[j]?=some f:=⟨_,List.getElem?_eq_getElem hj⟩
 unfold bP
 refine oI ?_
 walk_at "run"
 obtain ⟨⟨_,h1⟩,e1,hk,S1,b1⟩:=j9 (held:=held) a.S (by omega) a.w a.ne ok hp hj ht hh (by omega)
 have a1:=a.but S1 b1
 have C1:=C.but S1 b1
 dsimp only at hk a1 C1 b1
 refine rv e1 ?_
 rcases hk with ⟨k,lk,rfl,hmx,k0,k1,okk⟩ | ⟨rfl,_⟩
 ·walk_at "run"
  refine rv (a:=(.bl false,_)) rfl ⟨_,rfl,fun z=>(nomatch z),fun _=>?_⟩
  refine ⟨_,rfl,?_⟩
  show Rn (aB _ _ _ _) _
  refine cX (way=Str.ofString "all") ?_ (fun z=>?_) (fun z=>?_)
  ·walk_at "run"
   refine ⟨_,rfl,?_⟩
   rw [show (way==Str.ofString "all")=decide (way=Str.ofString "all") by rw [Bool.eq_iff_iff];simp only [beq_iff_eq,decide_eq_true_eq]]
  ·show Rn (aB _ _ _ _) _
   walk_at "run"
   refine ⟨_,_,rfl,?_⟩
   walk_at "run"
   refine dZ ?_
   walk_at "run"
   obtain ⟨⟨d2,h2⟩,e2,hd2,S2,b2⟩:=a9 (d:=.lv ([1,1,2,3].map D.int)) (S1.more [.lst [aH lk]]) (by omega) (.inl rfl) (by simp) (by simp)
   obtain ⟨i,rfl,hi⟩:=bU (P:=fun i=>1≤i∧i≤3) hd2 (by intro x hx;simp at hx;omega)
   refine rv e2 ?_
   obtain ⟨hb2,rfl,b2'⟩:=b2.t6 a1.lt.1
   have lt1:=a1.lt
   have a2:=a1.but (S2.cut (by rw [b2'.1];exact lt1.1) (by rw [b2'.1];exact lt1.2.1)) b2'
   walk_at "run"
   refine ⟨i,rfl,by omega,by omega,?_⟩
   refine eV (fun i δ h'=>∃(ls:List Lock) (hi:Int) (n:Nat) (d11 d12 d13:Option D) (hb g:MH),δ=[some (.ob s),some (.ob wd),some (.int j),some (.int d),some (.int top),some (.lv (held.map aH)),some (.str way),some (.int k),some (aH lk),some (.ob n),some (.int hi),d11,d12,d13,none]∧h'=hb++g∧h'[n]?=some (.lst (ls.map aH))∧h.length≤n∧lk∈ls∧ls.Nodup∧(∀x∈ls,cH W ps x)∧ls.length≤i+1∧0≤hi∧hi < W.names.length∧Sw s c wd cs W fl odd (B+11+10*i) l hb∧But s h hb∧Cl (hb++g))
    ⟨[lk],k,h1.length,none,none,none,hb2,[.lst [aH lk]],rfl,rfl,by rw [←b2'.1];simp,by rw [b1.1];exact Nat.le_refl _,by simp,by simp,by simpa using okk,Nat.le_refl _,k0,k1,a2,b1.trans b2',(C1.but a2.S b2').snoc (o:=.lst [aH lk]) rfl⟩ (fun _ _ _ _ _=>rfl) ?_ ?_
   ·rintro q x δ h' hx ⟨ls,hi',n,d11,d12,d13,hb,g,rfl,rfl,hn,hnl,hlk,nd,hok,hll,hi0,hi1,a3,b3,C3⟩
    have hq:q < 3:=by
     have:=(List.getElem?_eq_some_iff.mp hx).1
     simp at this
     omega
    have a3g:=a3.more g
    walk_at "run"
    obtain ⟨⟨_,h4⟩,e4,hk4,S4,b4⟩:=j9 (held:=held) a3g.S (by omega) a3g.w a3g.ne ok hp hj ht hh (by omega)
    have C4:=C3.but S4 b4
    dsimp only at hk4 S4 b4 C4
    refine rv e4 ?_
    rcases hk4 with ⟨k4,lk4,rfl,_,k40,k41,okk4⟩ | ⟨_,z4⟩
    ·obtain ⟨hb4,rfl,b4'⟩:=b4.t6 a3.lt.1
     have lt3:=a3.lt
     have a4:=a3.but (S4.cut (by rw [b4'.1];exact lt3.1) (by rw [b4'.1];exact lt3.2.1)) b4'
     have hn4:(hb4++g)[n]?=some (.lst (ls.map aH)):=by
      rw [b4.2 n (by have:=a.lt.1;omega)];exact hn
     walk_at "run"
     refine rv (gk _ _ _) ?_
     walk_at "run"
     refine u7 ?_
     walk_at "run"
     refine rv (lJ lk4 hn4) ?_
     obtain ⟨us,v,hv,hus,husl,hnd,hokk⟩:∃(us:List Lock) (v:Int),mW [.bl (!(ls.map cV).any fun b=>PyData.eqv b (cV lk4))] (hb4++g)=some (.int v,hb4++g)∧tP (.lv [aH lk4]) (.int v) (hb4++g)=some (.lv (us.map aH),hb4++g)∧us.length≤1∧(ls++us).Nodup∧∀x∈ls++us,cH W ps x:=by
      cases hb0:((ls.map cV).any fun b=>PyData.eqv b (cV lk4)) with
      | true=>exact ⟨[],0,rfl,rfl,by simp,by simpa using nd,by simpa using hok⟩
      | false=>
       have hnot:lk4∉ls:=fun z=>by
        rw [List.any_eq_false] at hb0
        exact hb0 (cV lk4) (List.mem_map_of_mem z) (qZ lk4)
       refine ⟨[lk4],1,rfl,rfl,by simp,?_,?_⟩
       ·rw [List.nodup_append]
        refine ⟨nd,by simp,fun x hx y hy z=>hnot ?_⟩
        rw [List.mem_singleton.mp hy] at z
        rw [←z];exact hx
       ·intro x hx
        rcases List.mem_append.mp hx with z | z
        ·exact hok x z
        ·rw [List.mem_singleton.mp z];exact okk4
     walk_at "run"
     refine rv hv ?_
     walk_at "run"
     refine rv hus ?_
     refine ⟨ls.map aH,us.map aH,by simp only [dD,hn4],rfl,by rw [List.length_map,List.length_map,show sizeLine=16777216 from rfl];omega,?_⟩
     refine ⟨ls++us,max hi' k4,(hb4++g).length,_,_,_,hb4,g++[.lst ((ls++us).map aH)],rfl,by rw [List.map_append];exact List.append_assoc _ _ _,by rw [List.map_append];simp,?_,List.mem_append_left _ hlk,hnd,hokk,by simp;omega,by omega,by omega,a4.up (by omega),b3.trans b4',?_⟩
     ·have:=b4'.1
      have:=b3.1
      rw [List.length_append];omega
     ·rw [←List.append_assoc]
      exact C4.snoc (o:=.lst _) (fO _ _ (ir _) _)
    ·exact absurd z4 (by omega)
   ·rintro δ h' ⟨ls,hi',n,d11,d12,d13,hb,g,rfl,rfl,hn,hnl,hlk,nd,hok,hll,hi0,hi1,a3,b3,C3⟩
    rw [List.length_map,List.length_range] at hll a3
    have lt3:=a3.lt
    show Rn (aB _ _ _ _) _
    refine mC ?_
    refine Rn.imp (Q:=fun r=>∃(ls:List Lock) (g:MH),r=(Fl.nx,[some (.ob s),some (.ob wd),some (.int j),some (.int d),some (.int top),some (.lv (held.map aH)),some (.str way),some (.int k),some (aH lk),some (.ob n),some (.int hi'),d11,d12,d13,none],hb++g)∧(hb++g)[n]?=some (.lst (ls.map aH))∧2≤ls.length∧ls.length≤4∧ls.Nodup∧(∀x∈ls,cH W ps x)∧Cl (hb++g)) ?_ ?_
    ·walk_at "run"
     refine rv (oR hn) ?_
     walk_at "run"
     refine ⟨_,rfl,fun z=>?_,fun z=>?_⟩
     ·have z:ls.length=1:=by
       have:((ls.map aH).length:Int)=1:=by simpa using z
       rw [List.length_map] at this
       omega
      obtain ⟨x0,rfl⟩:∃x0,ls=[x0]:=List.length_eq_one_iff.mp z
      obtain rfl:lk=x0:=List.mem_singleton.mp hlk
      obtain ⟨nm,wo,fi⟩:=lk
      have hok0:=hok _ (List.mem_singleton.mpr rfl)
      walk_at "run"
      refine sC ?_
      walk_at "run"
      refine ⟨gf hn,?_⟩
      walk_at "run"
      refine rv (a:=(.str nm,_)) rfl ?_
      walk_at "run"
      refine rv (a:=(aY (wo,fi),_)) rfl ?_
      walk_at "run"
      refine rv (a:=(.str wo,_)) rfl ?_
      walk_at "run"
      refine rv (a:=(aY (wo,fi),_)) rfl ?_
      walk_at "run"
      refine rv (a:=(.int fi,_)) rfl ?_
      walk_at "run"
      refine rv (a:=(aY (wo,fi),_)) rfl ?_
      walk_at "run"
      refine rv (a:=(.int fi,_)) rfl ?_
      walk_at "run"
      obtain ⟨v,hv,hm,v1,v0⟩:∃v:Int,mW [.bl (decide (90 < fi))] (hb++g)=some (.int v,hb++g)∧dr (.int 2) (.int v) (hb++g)=some (.int (2*v),hb++g)∧(90 < fi→v=1)∧(¬90 < fi→v=0):=by
       by_cases z:90 < fi
       ·exact ⟨1,by rw [decide_eq_true z];rfl,rfl,fun _=>rfl,fun y=>absurd z y⟩
       ·exact ⟨0,by rw [decide_eq_false z];rfl,rfl,fun y=>absurd y z,fun _=>rfl⟩
      refine rv hv ?_
      walk_at "run"
      refine rv hm ?_
      walk_at "run"
      refine rv (eh hn (by rw [List.length_map,show sizeLine=16777216 from rfl];simp)) ?_
      walk_at "run"
      have hlen:=b3.1
      rw [List.set_append_right _ _ (by omega)]
      have okf:=hok0.2
      have okn:=hok0.1
      dsimp only at okn
      unfold c7 at okf
      dsimp only at okf
      have hvv:v=0∨v=1:=by by_cases z:90 < fi <;> omega
      refine ⟨[(nm,wo,fi),(nm,wo,fi+1-2*v)],_,rfl,?_,by simp,by simp,?_,?_,?_⟩
      ·rw [List.getElem?_append_right (by omega),List.getElem?_set_self]
       ·rfl
       ·have:=(List.getElem?_eq_some_iff.mp hn).1
        rw [List.length_append] at this
        omega
      ·simp;omega
      ·intro x hx
       rcases List.mem_cons.mp hx with rfl | hx
       ·exact hok0
       ·rw [List.mem_singleton.mp hx]
        exact ⟨okn,okf.1,by dsimp only;omega,by dsimp only;omega⟩
      ·rw [←List.set_append_right _ _ (by omega)]
       exact C3.set (o:=.lst _) rfl
     ·have z:ls.length≠1:=by
       have:((ls.map aH).length:Int)≠1:=by simpa using z
       rw [List.length_map] at this
       omega
      have:0 < ls.length:=List.length_pos_of_mem hlk
      exact ⟨_,rfl,ls,g,rfl,hn,by omega,by omega,nd,hok,C3⟩
    rintro _ ⟨ls,g,rfl,hn,l2,l4,nd,hok,C4⟩
    have a4:=a3.more g
    show Rn (aB _ _ _ _) _
    walk_at "run"
    refine rv (ny a4.w) ?_
    walk_at "run"
    obtain ⟨v,hv,v0,v1⟩:∃v:Int,mW [.bl (odd==0)] (hb++g)=some (.int v,hb++g)∧0≤v∧v≤1:=by
     cases odd==0
     ·exact ⟨0,rfl,by omega,by omega⟩
     ·exact ⟨1,rfl,by omega,by omega⟩
    refine rv hv ?_
    walk_at "run"
    refine rv (a:=(.tup (ls.map aH),_)) (by simp only [cI,bY,hn,Option.map_some];rfl) ?_
    walk_at "run"
    refine rv (gk _ _ _) ?_
    walk_at "run"
    refine rv (a:=(.lv ((held++ls).map aH),_)) (by
     rw [List.map_append]
     simp only [aV,pM,dD,hn,Option.bind_some,List.length_map]
     rw [if_pos (by rw [show sizeLine=16777216 from rfl];omega)]) ?_
    walk_at "run"
    obtain ⟨⟨_,h5⟩,e5,lot,l5,rfl,okl,hll5,l50,cr,a5,b5⟩:=hlot (hb++g) _ l j ps (d+1) (max top (hi'+v)) (held++ls) 3 a4 C4 (by omega) l0 hp hj (by omega) (by omega) (by omega) (by omega) (by
     intro x hx
     rcases List.mem_append.mp hx with z | z
     ·exact hh x z
     ·exact hok x z) (by simp;omega) (by decide) (by decide)
    rw [show ((d+1:Nat):Int)=(d:Int)+1 from rfl] at e5
    refine rv e5 ?_
    obtain ⟨hb5,rfl,b5'⟩:=b5.t6 lt3.1 lt3.2.2
    have a5':=a5.cut (by rw [b5'.1];exact lt3.1) (by rw [b5'.1];exact lt3.2.1) (by rw [b5'.1];exact lt3.2.2)
    have b6:bQ s wd h hb5:=b3.two.trans b5'
    walk_at "run"
    refine rv (eZ b6.1 (C.two a5' b6) (fun n z=>(nomatch z)) ?_) ?_
    ·have:=gQ h.length (.all ls lot)
     rw [bp] at this;exact this
    ·exact ⟨.all ls lot,l5,by rw [bp],by unfold cj;exact ⟨⟨l2,l4,nd,hok⟩,d5,hll5,okl⟩,l50,by rw [cnt];push_cast;omega,a5'.up (by rw [cnt];omega),b6⟩
  refine mC ?_
  walk_at "run"
  refine rv (gk _ _ _) ?_
  walk_at "run"
  refine rv (ja aH held [lk] _ (by simp;omega)) ?_
  walk_at "run"
  obtain ⟨⟨_,h2⟩,e2,lot,l2,rfl,okl,hll,l20,cr,a2,b2⟩:=hlot h1 (B+10) l j ps (d+1) (max top k) (held++[lk]) 3 a1 C1 (by omega) l0 hp hj (by omega) (by omega) (by omega) (by omega) (by
   intro x hx
   rcases List.mem_append.mp hx with z | z
   ·exact hh x z
   ·rw [List.mem_singleton.mp z];exact okk) (by simp;omega) (by decide) (by decide)
  rw [show ((d+1:Nat):Int)=(d:Int)+1 from rfl] at e2
  refine rv e2 ?_
  have C2:=C1.two a2 b2
  refine Rn.imp (Q:=_) (cX (way=Str.ofString "ask") ?_ (fun z=>?_) (fun z=>?_)) fun _ z=>z
  ·walk_at "run"
   refine ⟨_,rfl,?_⟩
   rw [show (way==Str.ofString "ask")=decide (way=Str.ofString "ask") by rw [Bool.eq_iff_iff];simp only [beq_iff_eq,decide_eq_true_eq]]
  ·walk_at "run"
   obtain ⟨⟨_,h3⟩,e3,lot3,l3,rfl,okl3,hll3,l30,cr3,a3,b3⟩:=hlot h2 _ l2 j ps (d+1) top held 2 a2 C2 (by omega) l20 hp hj (by omega) (by omega) (by omega) ht hh (by omega) (by decide) (by decide)
   rw [show ((d+1:Nat):Int)=(d:Int)+1 from rfl] at e3
   refine rv e3 ?_
   walk_at "run"
   have b4:=(b1.two.trans (b2.trans b3))
   refine rv (ej b4.1 (C2.two a3 b3) (fun n z=>(nomatch z)) ?_) ?_
   ·have:=gQ h.length (.ask lk lot lot3)
    rw [bp] at this;exact this
   ·exact ⟨.ask lk lot lot3,l3,by rw [bp],by unfold cj;exact ⟨okk,d5,hll,hll3,okl,okl3⟩,l30,by rw [cnt];push_cast;omega,a3.up (by rw [cnt];omega),b4⟩
  ·walk_at "run"
   have b4:=(b1.two.trans b2)
   refine rv (ej b4.1 C2 (fun n z=>(nomatch z)) ?_) ?_
   ·have:=gQ h.length (.within lk lot)
    rw [bp] at this;exact this
   ·exact ⟨.within lk lot,l2,by rw [bp],by unfold cj;exact ⟨okk,d5,hll,okl⟩,l20,by rw [cnt];push_cast;omega,a2.up (by rw [cnt];omega),b4⟩
 ·walk_at "run"
  refine rv (a:=(.bl true,_)) rfl ⟨_,rfl,fun _=>?_,fun z=>(nomatch z)⟩
  walk_at "run"
  refine rv (cu a1.w) ?_
  walk_at "run"
  refine rv (bF hdj) ?_
  walk_at "run"
  refine rv (ej b1.1 C1 (fun n z=>(nomatch z)) rfl) ?_
  exact ⟨.say dj,l,by rw [bp],by unfold cj;exact List.mem_append_right _ (List.mem_of_getElem? hdj),l0,by rw [cnt];rfl,a1.up (by rw [cnt];omega),b1.two⟩
end
end Mi
namespace Mi
open PySem Sm L2 Pg
theorem nU (ts:List Lock) (h:MH):fv (.lv (ts.map aH)) (.lv []) h=some (.bl (!ts.isEmpty),h):=by
 have:=du ts
 simp only [fv,eqA,cn,eqD,rdD,gI,pyD,pyL,Option.map_some,Option.bind_some]
 rw [if_pos ⟨show PyData.depthAll _+1≤64 by omega,by decide⟩]
 cases ts <;> rfl
section
variable {s c wd:Nat} {cs:List Int} {W:Wd} {fl:List Int} {odd:Int}
theorem ring (ok:WdOk W fl odd) (two:∀f,oy s c wd cs W fl odd f→t7 s c wd cs W fl odd (f+1)):∀f,oy s c wd cs W fl odd f∧wG s c wd cs W fl odd f∧rL s c wd cs W fl odd f∧t7 s c wd cs W fl odd f
 | 0=>⟨fun _ _ _ _ _ _ _ _ _ _ _ _ _ _ _ _ _ z=>absurd z (by omega),fun _ _ _ _ _ _ _ _ _ _ _ _ _ _ _ _ z=>absurd z (by omega),fun _ _ _ _ _ _ _ _ _ _ _ _ _ _ _ _ z1 z=>absurd z (by omega),fun _ _ _ _ _ _ _ _ _ _ _ _ _ _ _ z1 z=>absurd z (by omega)⟩
 | f+1=>by
  obtain ⟨a,b,c,d⟩:=ring ok two f
  exact ⟨nM ok b,uM ok a c d,pA ok a,two f a⟩
end
end Mi
namespace Mi
open PySem Sm L2 Pg
section
variable {s c wd:Nat} {cs:List Int} {W:Wd} {fl:List Int} {odd:Int}
theorem uy (ok:WdOk W fl odd) {f:Nat} (hlot:oy s c wd cs W fl odd f):t7 s c wd cs W fl odd (f+1):=by
 intro h B l j ps d top held a C hB l5 hp hj d1 d3 hf ht hh hl
 have pl:=ok.p3 ps (List.mem_of_getElem? hp)
 obtain ⟨dj,hdj⟩:∃f,W.deeds[j]?=some f:=⟨_,List.getElem?_eq_getElem hj⟩
 obtain ⟨fj,hfj⟩:∃f,fl[j]?=some f:=⟨_,List.getElem?_eq_getElem (by rw [ok.fln];exact hj)⟩
 have hfm:=ok.f0 fj (List.mem_of_getElem? hfj)
 have hsay:Rn (leave h (.tup [.str "say",.str dj]) h) fun p=>∃(r:Row) (l':Int),p.1=bp r∧cj W ps d r∧0≤l'∧l'+cnt r=l+1∧Sw s c wd cs W fl odd (B+95+100*(cnt r-1)) l' p.2∧bQ s wd h p.2:=by
  refine rv (ej rfl C (fun n z=>(nomatch z)) rfl) ?_
  exact ⟨.say dj,l,by rw [bp],by unfold cj;exact List.mem_append_right _ (List.mem_of_getElem? hdj),by omega,by rw [cnt];rfl,a.up (by rw [cnt];omega),bQ.refl _ _ _⟩
 unfold bu
 refine oI ?_
 walk_at "run"
 refine rv (gw a.w) ?_
 walk_at "run"
 refine rv (bF hfj) ?_
 walk_at "run"
 refine rv (gk top fj h) ?_
 have lo0:0≤max top fj:=by omega
 have lo1:max top fj≤W.names.length:=by omega
 generalize max top fj=lo at lo0 lo1 ⊢
 refine cX (lo=W.names.length) ?_ (fun z=>?_) (fun z=>?_)
 ·walk_at "run"
  refine rv (cq a.w) ?_
  walk_at "run"
  refine ⟨_,rfl,?_⟩
  rw [List.length_map,show (lo==(W.names.length:Int))=decide (lo=W.names.length) by rw [Bool.eq_iff_iff];simp only [beq_iff_eq,decide_eq_true_eq]]
 ·walk_at "run"
  refine rv (cu a.w) ?_
  walk_at "run"
  refine rv (bF hdj) ?_
  walk_at "run"
  exact hsay
 obtain ⟨kn,rfl⟩:=Int.eq_ofNat_of_zero_le lo0
 have hkn:kn < W.names.length:=by omega
 obtain ⟨nm,hnm⟩:∃f,W.names[kn]?=some f:=⟨_,List.getElem?_eq_getElem hkn⟩
 refine mC ?_
 walk_at "run"
 refine eU ?_
 walk_at "run"
 refine ⟨_,_,rfl,?_⟩
 obtain ⟨⟨ys,h4⟩,e4,hyl,hym,δ4,hh4,_⟩:=ik (ws:=[]) (g:=gN 0) (c:=aR (eOp cP (eOp fIx (af 0) (eK (.int 0))) (eOp fIx (eOp fIx (af 2) (eK (.str "names"))) (af 1)))) (e:=af 0) (fun x y=>∃l∈held,y=aH l)
  (xs:=held.map aH) (δ:=[none,some (.int kn),some (.ob wd)]) (h:=h) (fun j δ h'=>h'=h∧∃d0,δ=[d0,some (.int kn),some (.ob wd)]) ⟨rfl,_,rfl⟩ (fun _ _ _ _ _=>rfl) (by
   rintro i x δ h' hx ⟨rfl,d0,rfl⟩
   obtain ⟨l,hl,rfl⟩:=List.mem_map.mp (List.mem_of_getElem? hx)
   walk_at "run"
   refine rv (a:=(.str l.1,_)) rfl ?_
   walk_at "run"
   refine rv (cq a.w) ?_
   walk_at "run"
   refine rv (bF hnm) ?_
   walk_at "run"
   refine ⟨_,rfl,fun _=>?_,fun _=>⟨rfl,_,rfl⟩⟩
   walk_at "run"
   exact ⟨⟨l,hl,rfl⟩,rfl,_,rfl⟩)
 dsimp only at hh4
 subst hh4
 refine rv e4 ⟨Nat.le_trans hyl (by rw [List.length_map,show sizeLine=16777216 from rfl];omega),?_⟩
 obtain ⟨ts,rfl⟩:∃ts:List Lock,ys=ts.map aH:=by
  clear e4 hyl
  induction ys with
  | nil=>exact ⟨[],rfl⟩
  | cons y r ih=>
   obtain ⟨js,rfl⟩:=ih fun z hz=>hym z (List.mem_cons_of_mem _ hz)
   obtain ⟨x,hx,l,hl,rfl⟩:=hym y List.mem_cons_self
   exact ⟨l::js,rfl⟩
 walk_at "run"
 refine rv (nU ts _) ⟨_,rfl,fun z=>?_,fun z=>?_⟩
 ·walk_at "run"
  refine rv (cu a.w) ?_
  walk_at "run"
  refine rv (bF hdj) ?_
  walk_at "run"
  exact hsay
 walk_at "run"
 refine rv (cq a.w) ?_
 walk_at "run"
 refine rv (bF hnm) ?_
 walk_at "run"
 refine rv (ic a.w) ?_
 walk_at "run"
 refine rv (p4 a.w (l-5)) ?_
 have a1:=a.set (l-5)
 have b1:bQ s wd h4 (h4.set wd (wdO W fl (l-5) odd)):=bQ.set
 have C1:=C.two a1 b1
 generalize h4.set wd (wdO W fl (l-5) odd)=h5 at a1 b1 C1 ⊢
 walk_at "run"
 refine rv (bW a1.w) ?_
 walk_at "run"
 refine rv (bF hp) ?_
 walk_at "run"
 obtain ⟨⟨_,h2⟩,e2,t1,rfl,tk1,_,S2,b2⟩:=cF (ps:=ps) a1.S (by omega) pl
 refine rv e2 ?_
 have a2:=a1.but S2 b2
 walk_at "run"
 refine rv (bW a2.w) ?_
 walk_at "run"
 refine rv (bF hp) ?_
 walk_at "run"
 obtain ⟨⟨_,h3⟩,e3,t2,rfl,tk2,_,S3,b3⟩:=cF (ps:=ps) S2 (by omega) pl
 refine rv e3 ?_
 have a3:=a2.but S3 b3
 have C3:=(C1.but S2 b2).but S3 b3
 dsimp only at a3 C3 b2 b3
 walk_at "run"
 refine ⟨_,_,rfl,?_⟩
 walk_at "run"
 refine eU ?_
 walk_at "run"
 refine ⟨_,_,rfl,?_⟩
 have hlen3:h3.length=h4.length:=by rw [b3.1,b2.1,b1.1]
 have bb3:bQ s wd h4 h3:=b1.trans (b2.two.trans b3.two)
 refine eV (fun i δ h'=>∃(rows:List Row) (l':Int) (d11 d12 d13:Option D) (hb:MH),δ=[some (.ob s),some (.ob wd),some (.int j),some (.int d),some (.int top),some (.lv (held.map aH)),some (.int kn),some (.str nm),some (aY t1),some (aY t2),some (.ob h3.length),d11,d12,d13]∧h'=hb++[.lst (rows.map fun r=>.tup [bp r])]∧rows.length=i∧(∀r∈rows,cj W ps (d+1) r)∧0≤l'∧l'+((rows.map cnt).sum:Nat)=l-5+2*i∧Sw s c wd cs W fl odd (B+8+100*(rows.map cnt).sum) l' hb∧bQ s wd h4 hb)
  ⟨[],l-5,_,_,_,h3,rfl,rfl,rfl,fun _ z=>(nomatch z),by omega,by simp,a3.up (by omega),bb3⟩ (fun _ _ _ _ _=>rfl) ?_ ?_
 ·rintro i x δ h' hx ⟨rows,l',d11,d12,d13,hb,rfl,rfl,hrl,hro,l'0,hc,a6,b6⟩
  have hi:i < 2:=(List.getElem?_eq_some_iff.mp hx).1
  obtain ⟨u,v,rfl,uk,vk⟩:∃u v:Term,x=.tup [aY u,aY v]∧c7 ps u∧c7 ps v:=by
   rcases List.mem_cons.mp (List.mem_of_getElem? hx) with rfl | hx
   ·exact ⟨t1,t2,rfl,tk1,tk2⟩
   ·rw [List.mem_singleton.mp hx]
    exact ⟨t2,t1,rfl,tk2,tk1⟩
  have okn:=List.mem_of_getElem? hnm
  have C6:=C.two a6 b6
  have hlb:hb.length=h3.length:=by rw [b6.1,hlen3]
  generalize hrs:rows.map (fun r=>D.tup [bp r])=rs
  have hcl:clL (hb.length+1) rs=true:=by rw [←hrs];exact fO _ _ (fun r=>by show (clD _ (bp r)&&true)=true;rw [gQ];rfl) rows
  walk_at "run"
  refine rv (ja aH held [(nm,u),(nm,v)] _ (by simp;omega)) ?_
  walk_at "run"
  obtain ⟨⟨_,h7⟩,e7,lot,l7,rfl,okl,hll,l70,cr,a7,b7⟩:=hlot (hb++[.lst rs]) _ l' j ps (d+3) kn (held++[(nm,u),(nm,v)]) 2 (a6.more _) (C6.snoc (o:=.lst rs) hcl) (by omega) l'0 hp hj (by omega) (by omega) (by omega) lo1 (by
   intro x hx
   rcases List.mem_append.mp hx with z | z
   ·exact hh x z
   ·rcases List.mem_cons.mp z with rfl | z
    ·exact ⟨okn,uk⟩
    ·rw [List.mem_singleton.mp z];exact ⟨okn,vk⟩) (by simp;omega) (by decide) (by decide)
  rw [show ((d+3:Nat):Int)=(d:Int)+3 from rfl] at e7
  refine rv e7 ?_
  obtain ⟨hb7,rfl,b7'⟩:=b7.app a6.lt.1 a6.lt.2.2
  have lt6:=a6.lt
  have a7':=a7.cut (by rw [b7'.1];exact lt6.1) (by rw [b7'.1];exact lt6.2.1) (by rw [b7'.1];exact lt6.2.2)
  have hl7:hb7.length=h3.length:=by rw [b7'.1,hlb]
  have hat:(hb7++[MO.lst rs])[h3.length]?=some (.lst rs):=by rw [←hl7];simp
  walk_at "run"
  refine sC ?_
  walk_at "run"
  refine ⟨gf hat,?_⟩
  walk_at "run"
  refine rv (eh hat (by rw [←hrs,List.length_map,show sizeLine=16777216 from rfl];omega)) ?_
  walk_at "run"
  have hcn:((rows++[Row.within (nm,u) [Row.within (nm,v) lot]]).map cnt).sum=(rows.map cnt).sum+(2+bC lot):=by
   rw [List.map_append,List.sum_append]
   simp [cnt,bC]
   omega
  refine ⟨rows++[.within (nm,u) [.within (nm,v) lot]],l7,_,_,_,hb7,rfl,?_,by simp [hrl],?_,l70,by rw [hcn];push_cast;omega,by rw [hcn];exact a7'.up (by omega),b6.trans b7'⟩
  ·rw [show h3.length=hb7.length from hl7.symm,List.set_append_right _ _ (Nat.le_refl _),Nat.sub_self,List.map_append,hrs]
   simp [bp,bh,aH]
  ·intro r hr
   rcases List.mem_append.mp hr with z | z
   ·exact hro r z
   ·rw [List.mem_singleton.mp z]
    simp only [cj,bA]
    exact ⟨⟨okn,uk⟩,by omega,by simp,⟨⟨okn,vk⟩,by omega,hll,okl⟩,trivial⟩
 ·rintro δ h' ⟨rows,l',d11,d12,d13,hb,rfl,rfl,hrl,hro,l'0,hc,a6,b6⟩
  have okn:=List.mem_of_getElem? hnm
  match rows,hrl with
  | [r0,r1],_=>
   have hc:l'+((([r0,r1]:List Row).map cnt).sum:Nat)=l-5+2*2:=hc
   have hlb:hb.length=h3.length:=by rw [b6.1,hlen3]
   have hat:(hb++[MO.lst [.tup [bp r0],.tup [bp r1]]])[h3.length]?=some (.lst [.tup [bp r0],.tup [bp r1]]):=by rw [←hlb];simp
   show Rn _ _
   walk_at "run"
   refine rv (fc hat (d:=.tup [bp r0]) rfl) ?_
   walk_at "run"
   refine rv (fc hat (d:=.tup [bp r1]) rfl) ?_
   walk_at "run"
   have hcn:cnt (Row.by_ t1 t2 [r0] [.within (nm,t1) []] [r1])=2+((([r0,r1]:List Row).map cnt).sum):=by simp [cnt,bC];omega
   have hD:bp (Row.by_ t1 t2 [r0] [.within (nm,t1) []] [r1])=.tup [.str "by",aY t1,aY t2,.tup [bp r0],.tup [.tup [.str "within",.tup [.str nm,aY t1],.tup []]],.tup [bp r1]]:=by simp [bp,bh,aH]
   refine rv (eZ b6.1 (C.two a6 b6) (fun n z=>(nomatch z)) ?_) ?_
   ·rw [←hD];exact gQ _ _
   ·refine ⟨.by_ t1 t2 [r0] [.within (nm,t1) []] [r1],l',hD.symm,?_,l'0,by rw [hcn];push_cast;omega,a6.up (by rw [hcn];omega),b6⟩
    simp only [cj,bA]
    exact ⟨tk1,tk2,by omega,by simp,by simp,by simp,⟨hro r0 (by simp),trivial⟩,⟨⟨⟨okn,tk1⟩,by omega,by simp,trivial⟩,trivial⟩,⟨hro r1 (by simp),trivial⟩⟩
end
end Mi
namespace Mi
open PySem Sm L2 Pg
theorem lE {P:Int→Prop}:∀{zs:List D},(∀y∈zs,∃i,y=.int i∧P i)→∃js:List Int,zs=js.map D.int∧∀j∈js,P j
 | [],_=>⟨[],rfl,fun _ z=>(nomatch z)⟩
 | y::r,h=>by
  obtain ⟨js,rfl,q⟩:=lE (zs:=r) fun z hz=>h z (List.mem_cons_of_mem _ hz)
  obtain ⟨i,rfl,p⟩:=h y List.mem_cons_self
  exact ⟨i::js,rfl,fun j hj=>by
   rcases List.mem_cons.mp hj with rfl | hj
   ·exact p
   ·exact q j hj⟩
theorem kh:∀ns:List Int,i6 (ns.map D.int)=some ns
 | []=>rfl
 | n::r=>by rw [List.map_cons];show (i6 (r.map D.int)).map _=_;rw [kh r];rfl
theorem pI {α:Type} (f:α→D) (xs:List α) (k:Nat) (h:MH):pJ (.lv (xs.map f)) none (some (k:Int)) h=some (.lv ((xs.take k).map f),h):=by
 show some (D.lv (cutD (xs.map f) none (some (k:Int))),h)=_
 unfold cutD
 rw [HT.qk,HT.sj,List.drop_zero,Nat.sub_zero,List.length_map,←List.map_take]
 by_cases z:k≤xs.length
 ·rw [Nat.min_eq_left z]
 ·rw [Nat.min_eq_right (by omega),List.take_of_length_le (Nat.le_refl _),List.take_of_length_le (by omega)]
theorem nv {h:MH} {s c:Nat} {cs:List Int} {B:Nat} {most odd:Int} (S:Mi.St s c cs B h) (hB:B+1000 < 2^60) (o0:0≤odd) (o1:odd≤1000):
  Rn (cC [.ob s,.int most,.int odd] h) fun p=>∃(W:Wd) (fl:List Int) (hb:MH),p.1=.ob h.length∧p.2=hb++[wdO W fl most odd]∧WdOk W fl odd∧Mi.St s c cs (B+100) hb∧But s h hb:=by
 refine cO ?_
 walk_at "run"
 obtain ⟨⟨d1,h1⟩,e1,hd1,S1,b1⟩:=a9 (d:=.lv ([1,2,2,3,4,6].map D.int)) S (by omega) (.inl rfl) (by simp) (by simp)
 obtain ⟨n1,rfl,hn1⟩:=bU (P:=fun i=>1≤i∧i≤6) hd1 (by decide)
 refine rv e1 ?_
 walk_at "run"
 obtain ⟨⟨_,h2⟩,e2,ns,rfl,nl,nk,nnd,S2,b2⟩:=eX (m:=n1) S1 (by omega) (by omega) (by omega)
 refine rv e2 ?_
 walk_at "run"
 obtain ⟨⟨d3,h3⟩,e3,hd3,S3,b3⟩:=a9 (d:=.lv ([1,1,2,2,3,4,6].map D.int)) S2 (by omega) (.inl rfl) (by simp) (by simp)
 obtain ⟨n2,rfl,hn2⟩:=bU (P:=fun i=>1≤i∧i≤6) hd3 (by decide)
 refine rv e3 ?_
 walk_at "run"
 obtain ⟨⟨_,h4⟩,e4,ds,rfl,dl,dk,dnd,S4,b4⟩:=eX (m:=n2) S3 (by omega) (by omega) (by omega)
 refine rv e4 ?_
 walk_at "run"
 obtain ⟨⟨_,h5⟩,e5,ps,rfl,pl,pk,pnd,S5,b5⟩:=eX (m:=3) S4 (by omega) (by omega) (by omega)
 refine rv e5 ?_
 have bb5:=b1.trans (b2.trans (b3.trans (b4.trans b5)))
 dsimp only at S5 bb5
 walk_at "run"
 refine eU ?_
 walk_at "run"
 refine ⟨_,_,rfl,?_⟩
 obtain ⟨⟨ys,h6⟩,e6,a6,δ6,_,S6,b6⟩:=gc (ws:=[]) (g:=gN 0) (e:=eFn aw (ae (af 1) (ae (eK (.lv [.int 0,.int 1,.int 1,.int 2,.int 2,.int 3])) ao))) (fun _ y=>∃i,y=.int i∧0≤i∧i≤3)
  (xs:=ds.map D.str) (δ:=[none,some (.ob s)]) (h:=h5) (fun i δ h'=>(∃d0,δ=[d0,some (.ob s)])∧Mi.St s c cs (B+70+i) h'∧But s h5 h') ⟨⟨_,rfl⟩,S5.up (by omega),But.refl _ _⟩ (fun _ _ _ _ _=>rfl) (by
   rintro i x δ h' hx ⟨⟨d0,rfl⟩,Si,bi⟩
   have hi:i < 6:=by
    have:=(List.getElem?_eq_some_iff.mp hx).1
    rw [List.length_map] at this
    omega
   walk_at "run"
   obtain ⟨⟨d7,h7⟩,e7,hd7,S7,b7⟩:=a9 (d:=.lv ([0,1,1,2,2,3].map D.int)) Si (by omega) (.inl rfl) (by simp) (by simp)
   refine rv e7 ?_
   exact ⟨bU (P:=fun i=>0≤i∧i≤3) hd7 (by decide),⟨_,rfl⟩,S7.up (by omega),bi.trans b7⟩)
 have l6:=a6.length
 obtain ⟨many,rfl,hmany⟩:=lE (P:=fun i=>0≤i∧i≤3) fun y hy=>(let ⟨_,_,r⟩:=a6.right y hy;r)
 dsimp only at S6 b6 l6
 rw [List.length_map,List.length_map] at l6
 rw [List.length_map] at S6
 refine rv e6 ⟨by dsimp only;rw [List.length_map,show sizeLine=16777216 from rfl];omega,?_⟩
 walk_at "run"
 refine eU ?_
 walk_at "run"
 refine ⟨_,_,rfl,?_⟩
 obtain ⟨⟨ys,h7⟩,e7,a7,δ7,_,S7,b7⟩:=gc (ws:=[]) (g:=gN 0) (e:=eFn ar (ae (af 2) (ae (eFn cU (ae (af 1) ao)) ao))) (fun _ y=>∃i,y=.int i∧0≤i∧i < ns.length)
  (xs:=ds.map D.str) (δ:=[none,some (.lv (ns.map D.str)),some (.ob s)]) (h:=h6) (fun i δ h'=>(∃d0,δ=[d0,some (.lv (ns.map D.str)),some (.ob s)])∧Mi.St s c cs (B+80+i) h'∧But s h6 h') ⟨⟨_,rfl⟩,S6.up (by omega),But.refl _ _⟩ (fun _ _ _ _ _=>rfl) (by
   rintro i x δ h' hx ⟨⟨d0,rfl⟩,Si,bi⟩
   have hi:i < 6:=by
    have:=(List.getElem?_eq_some_iff.mp hx).1
    rw [List.length_map] at this
    omega
   walk_at "run"
   obtain ⟨⟨d7,h7⟩,e7,r,rfl,r0,r1,S7,b7⟩:=aX (m:=ns.length) Si (by omega) (by omega) (by omega)
   rw [List.length_map]
   refine rv e7 ?_
   exact ⟨⟨r,rfl,r0,r1⟩,⟨_,rfl⟩,S7.up (by omega),bi.trans b7⟩)
 have l7:=a7.length
 obtain ⟨fls,rfl,hfls⟩:=lE (P:=fun i=>0≤i∧i < ns.length) fun y hy=>(let ⟨_,_,r⟩:=a7.right y hy;r)
 dsimp only at S7 b7 l7
 rw [List.length_map,List.length_map] at l7
 rw [List.length_map] at S7
 refine rv e7 ⟨by dsimp only;rw [List.length_map,show sizeLine=16777216 from rfl];omega,?_⟩
 walk_at "run"
 refine rv (a:=(.lv ((fx fls).map D.int),h7)) (by
  show (i6 (fls.map D.int)).bind _=_
  rw [kh]
  show (if fls.length < 64 then _ else _)=_
  rw [if_pos (by omega)]) ?_
 walk_at "run"
 refine eU ?_
 walk_at "run"
 refine ⟨_,_,rfl,?_⟩
 have e8:b0 [] (gN 0) fA (nX (af 1) pNo (pAt (af 0))) (many.map D.int) [none,some (.lv (ps.map D.str))] h7=some ((many.map D.int).filterMap fun d=>match d with | .int k=>some (.lv ((ps.take k.toNat).map D.str)) | _=>none,h7):=
  kT rfl _ (fun δ=>∃d0,δ=[d0,some (.lv (ps.map D.str))]) ⟨_,rfl⟩ (by
   rintro x hx δ ⟨d0,rfl⟩
   obtain ⟨k,hk,rfl⟩:=List.mem_map.mp hx
   refine rv rfl ⟨rfl,rv rfl ⟨rfl,⟨_,rfl⟩,fun _=>⟨_,rfl,?_⟩,fun z=>(nomatch z)⟩⟩
   obtain ⟨n,rfl⟩:=Int.eq_ofNat_of_zero_le (hmany k hk).1
   walk_at "run"
   refine ⟨_,rfl,rv (pI D.str ps n _) ?_⟩
   rfl)
 have e9:((many.map D.int).filterMap fun d=>match d with | .int k=>some (D.lv ((ps.take k.toNat).map D.str)) | _=>none)=(many.map fun k=>ps.take k.toNat).map fun ps=>D.lv (ps.map D.str):=by
  rw [List.filterMap_map,List.map_map]
  exact congrFun (List.filterMap_eq_map (f:=(fun ps:List Str=>D.lv (ps.map D.str))∘fun k:Int=>ps.take k.toNat)) _
 rw [e9] at e8
 refine rv e8 ⟨by dsimp only;rw [List.length_map,List.length_map,show sizeLine=16777216 from rfl];omega,?_⟩
 walk_at "run"
 have hfin:∀(a b c d e f:D),Rn (nY (dC (eK (.str "names")) (af 3) (dC (eK (.str "deeds")) (af 4) (dC (eK (.str "params")) (af 5) (dC (eK (.str "floors")) (af 7) (dC (eK (.str "left")) (af 1) (dC (eK (.str "odd")) (af 2) vA)))))) [some (.ob s),some (.int most),some (.int odd),some a,some b,some c,some d,some e] h7) fun p=>p=(.ob h7.length,h7++[.dct [(.inr (Str.ofString "names"),a),(.inr (Str.ofString "deeds"),b),(.inr (Str.ofString "params"),c),(.inr (Str.ofString "floors"),e),(.inr (Str.ofString "left"),.int most),(.inr (Str.ofString "odd"),.int odd)]]):=fun a b c d e f=>⟨_,rfl,rfl⟩
 refine (hfin _ _ _ _ _ .non).imp ?_
 rintro _ rfl
 walk_at "run"
 have hb:=bb5.trans (b6.trans b7)
 refine ⟨⟨ns,ds,many.map fun k=>ps.take k.toNat⟩,fx fls,h7,by rw [hb.1],rfl,⟨?_,?_,?_,?_,?_,?_,?_,?_,o0,o1,nk,dk,?_,nnd,dnd,?_⟩,S7.up (by omega),hb⟩
 ·show 1≤ns.length;omega
 ·show ns.length≤6;omega
 ·show 1≤ds.length;omega
 ·show ds.length≤6;omega
 ·show (many.map _).length=ds.length;rw [List.length_map];omega
 ·intro q hq
  obtain ⟨k,hk,rfl⟩:=List.mem_map.mp hq
  rw [List.length_take]
  have:=pl
  omega
 ·show (fx fls).length=ds.length;rw [(dN fls).length_eq];omega
 ·intro f hf
  exact hfls f ((dN fls).mem_iff.mp hf)
 ·intro q hq w hw
  obtain ⟨k,hk,rfl⟩:=List.mem_map.mp hq
  exact pk w (List.mem_of_mem_take hw)
 ·intro q hq
  obtain ⟨k,hk,rfl⟩:=List.mem_map.mp hq
  exact pnd.sublist (List.take_sublist _ _)
end Mi
namespace Pg
open PySem Sm L2
abbrev nu:=Str×List Str×List Row
structure Prog where
 names:List Str
 deeds:List nu
def cE (d:nu):D:=.tup [.str d.1,.tup (d.2.1.map D.str),.tup (bh d.2.2)]
def iO (P:Prog):D:=.tup [.tup (P.names.map D.str),.tup (P.deeds.map cE)]
structure OkP (W:Wd) (most:Nat) (P:Prog):Prop where
 nm:P.names=eB W.names
 dl:P.deeds.length=W.deeds.length
 dd:∀(j:Nat) (d:nu),P.deeds[j]?=some d→W.deeds[j]?=some d.1∧W.params[j]?=some d.2.1∧bA W d.2.1 1 d.2.2∧d.2.2.length≤12
 ct:(P.deeds.map fun d=>bC d.2.2).sum≤most
end Pg
namespace Mi
open PySem Sm L2 Pg
theorem oU (n:Nat) (d:nu):clD n (cE d)=true:=by
 show (true&&(clL n (d.2.1.map D.str)&&(clL n (bh d.2.2)&&true)))=true
 rw [dH,cz];rfl
theorem tW (n:Nat) (P:Prog):clD n (iO P)=true:=by
 show (clL n (P.names.map D.str)&&(clL n (P.deeds.map cE)&&true))=true
 rw [dH,fO n _ (oU n)];rfl
theorem bQ.last {s:Nat} {hb h2:MH} {o:MO} (b:bQ s hb.length (hb++[o]) h2) (hs:s < hb.length):∃hb' o',h2=hb'++[o']∧But s hb hb':=by
 have hl:h2.length=hb.length+1:=by rw [b.1];simp
 have hx:hb.length < h2.length:=by omega
 refine ⟨h2.take hb.length,h2[hb.length]'hx,?_,by rw [List.length_take];omega,fun k hk=>?_⟩
 ·rw [List.take_append_getElem,List.take_of_length_le (by omega)]
 ·by_cases z:k < hb.length
  ·rw [List.getElem?_take_of_lt z,b.2 k hk (by omega),List.getElem?_append_left z]
  ·rw [List.getElem?_eq_none (by rw [List.length_take];omega),List.getElem?_eq_none (by omega)]
theorem tS {α:Type} {f:α→D} {xs:List α} {i:Nat} {x:D} (h:(fz 0 (xs.map f))[i]?=some x):∃a,xs[i]?=some a∧x=.tup [.int (i:Int),f a]:=by
 rw [gO,List.getElem?_map] at h
 cases e:xs[i]? with
 | none=>rw [e] at h;cases h
 | some a=>
  rw [e] at h
  cases h
  exact ⟨a,rfl,by rw [Nat.zero_add]⟩
theorem kW {h:MH} {s c:Nat} {cs:List Int} {B:Nat} {most odd:Int} (S:Mi.St s c cs B h) (C:Cl h) (hB:B+3000+100*most.toNat < 2^60) (m0:0≤most) (o0:0≤odd) (o1:odd≤1000):
  Rn (bV [.ob s,.int most,.int odd] h) fun p=>∃(W:Wd) (fl:List Int) (P:Prog),p.1=iO P∧WdOk W fl odd∧OkP W most.toNat P∧Mi.St s c cs (B+200+100*most.toNat) p.2∧But s h p.2:=by
 refine oI ?_
 walk_at "run"
 obtain ⟨⟨_,h1⟩,e1,W,fl,hb,rfl,rfl,ok,S1,b1⟩:=nv (most:=most) S (by omega) o0 o1
 refine rv e1 ?_
 have hlen:=b1.1
 have lt1:s < hb.length∧c < hb.length:=S1.lt
 have a0:Sw s c h.length cs W fl odd (B+100) most (hb++[wdO W fl most odd]):=⟨S1.more _,by rw [←hlen];simp,by omega,by omega⟩
 have C0:Cl (hb++[wdO W fl most odd]):=(C.but S1 b1).snoc (rq _ _ _ _ _)
 walk_at "run"
 refine sy ?_
 walk_at "run"
 refine rv (cu (a0.more _).w) ?_
 walk_at "run"
 refine ⟨_,_,_,rfl,rfl,?_⟩
 have hobl:(hb++[wdO W fl most odd]).length=h.length+1:=by simp [hlen]
 rw [hobl]
 refine eV (fun i δ h'=>∃(dds:List nu) (l':Int) (d5 d6 d7:Option D) (hw:MH),δ=[some (.ob s),some (.int most),some (.int odd),some (.ob h.length),some (.ob (h.length+1)),d5,d6,d7]∧h'=hw++[.lst (dds.map cE)]∧dds.length=i∧(∀(j:Nat) (d:nu),dds[j]?=some d→W.deeds[j]?=some d.1∧W.params[j]?=some d.2.1∧bA W d.2.1 1 d.2.2∧d.2.2.length≤12)∧0≤l'∧l'+((dds.map fun d=>bC d.2.2).sum:Nat)=most∧Sw s c h.length cs W fl odd (B+100+5*i+100*(dds.map fun d=>bC d.2.2).sum) l' hw∧bQ s h.length (hb++[wdO W fl most odd]) hw)
  ⟨[],most,_,_,_,_,rfl,rfl,rfl,fun _ _ z=>by simp at z,m0,by simp,a0,bQ.refl _ _ _⟩ (fun _ _ _ _ _=>rfl) ?_ ?_
 ·rintro i x δ h' hx ⟨dds,l',d5,d6,d7,hw,rfl,rfl,hdl,hdd,l'0,hc,a6,b6⟩
  obtain ⟨dn,hdn,rfl⟩:=tS hx
  have hi:i < W.deeds.length:=(List.getElem?_eq_some_iff.mp hdn).1
  obtain ⟨ps,hps⟩:∃f,W.params[i]?=some f:=⟨_,List.getElem?_eq_getElem (by rw [ok.pl];exact hi)⟩
  have d2:=ok.d2
  have C6:=C0.two a6 b6
  have hwl:hw.length=h.length+1:=by rw [b6.1,hobl]
  have hcl:clL (hw.length+1) (dds.map cE)=true:=fO _ _ (oU _) dds
  walk_at "run"
  obtain ⟨⟨d7,h7⟩,e7,hd7,S7,b7⟩:=a9 (d:=.lv ([1,2,3,4,12].map D.int)) (a6.more [.lst (dds.map cE)]).S (by omega) (.inl rfl) (by simp) (by simp)
  obtain ⟨mo,rfl,hmo⟩:=bU (P:=fun i=>1≤i∧i≤12) hd7 (by decide)
  refine rv e7 ?_
  have a7:=(a6.more [.lst (dds.map cE)]).but S7 b7
  have C7:=(C6.snoc (o:=.lst (dds.map cE)) hcl).but S7 b7
  walk_at "run"
  obtain ⟨⟨_,h8⟩,e8,lot,l8,rfl,okl,hll,l80,cr,a8,b8⟩:=(ring ok (fun f=>uy ok) 20).1 h7 _ l' i ps 1 (-1) [] mo a7 C7 (by omega) l'0 hps hi (by omega) (by omega) (by omega) (by have:=ok.n1;omega) (fun _ z=>(nomatch z)) (by simp) hmo.1 hmo.2
  refine rv e8 ?_
  obtain ⟨hw8,rfl,b8'⟩:=(b7.two.trans b8).app a6.lt.1 a6.lt.2.2
  have lt6:=a6.lt
  have a8':=a8.cut (by rw [b8'.1];exact lt6.1) (by rw [b8'.1];exact lt6.2.1) (by rw [b8'.1];exact lt6.2.2)
  have hl8:hw8.length=h.length+1:=by rw [b8'.1,hwl]
  have hat:(hw8++[MO.lst (dds.map cE)])[h.length+1]?=some (.lst (dds.map cE)):=by rw [←hl8];simp
  walk_at "run"
  refine sC ?_
  walk_at "run"
  refine ⟨gf hat,?_⟩
  walk_at "run"
  refine rv (bW a8.w) ?_
  walk_at "run"
  refine rv (bF hps) ?_
  walk_at "run"
  refine rv (a:=(.tup (ps.map D.str),_)) rfl ?_
  walk_at "run"
  refine rv (eh hat (by rw [List.length_map,show sizeLine=16777216 from rfl];omega)) ?_
  walk_at "run"
  have hcn:((dds++[(dn,ps,lot)]).map fun d:nu=>bC d.2.2).sum=(dds.map fun d:nu=>bC d.2.2).sum+bC lot:=by
   rw [List.map_append,List.sum_append]
   simp
  refine ⟨dds++[(dn,ps,lot)],l8,_,_,_,hw8,rfl,?_,by simp [hdl],?_,l80,by rw [hcn];push_cast;omega,by rw [hcn];exact a8'.up (by omega),b6.trans b8'⟩
  ·rw [←hl8,List.set_append_right _ _ (Nat.le_refl _),Nat.sub_self,List.map_append]
   rfl
  ·intro j d hj
   by_cases z:j < dds.length
   ·rw [List.getElem?_append_left z] at hj
    exact hdd j d hj
   ·rw [List.getElem?_append_right (by omega)] at hj
    have hj0:j-dds.length=0:=by
     have:=(List.getElem?_eq_some_iff.mp hj).1
     simp at this
     omega
    rw [hj0] at hj
    cases hj
    obtain rfl:j=i:=by omega
    exact ⟨hdn,hps,okl,hll⟩
 ·rintro δ h' ⟨dds,l',d5,d6,d7,hw,rfl,rfl,hdl,hdd,l'0,hc,a6,b6⟩
  rw [et,List.length_map] at hdl a6
  have d2:=ok.d2
  have n2:=ok.n2
  have hwl:hw.length=h.length+1:=by rw [b6.1,hobl]
  have hat:(hw++[MO.lst (dds.map cE)])[h.length+1]?=some (.lst (dds.map cE)):=by rw [←hwl];simp
  rw [←hlen] at b6
  obtain ⟨hb',o',rfl,b9⟩:=b6.last lt1.1
  have hl':=b9.1
  have S9:Mi.St s c cs _ hb':=a6.S.cut (by omega) (by omega)
  walk_at "run"
  refine rv (cq (a6.more _).w) ?_
  walk_at "run"
  refine rv (a:=(.lv ((eB W.names).map D.str),_)) (by
   show (iz (W.names.map D.str)).bind _=_
   rw [jV]
   show (if W.names.length < 64 then _ else _)=_
   rw [if_pos (by omega)]) ?_
  walk_at "run"
  refine rv (a:=(.tup ((eB W.names).map D.str),_)) rfl ?_
  walk_at "run"
  refine rv (a:=(.tup (dds.map cE),_)) (by simp only [cI,bY,hat,Option.map_some];rfl) ?_
  walk_at "run"
  rw [List.append_assoc]
  have bb:=b1.trans b9
  refine rv (eZ bb.1 (C.but S9 bb) (fun n z=>(nomatch z)) ?_) ?_
  ·exact tW _ ⟨eB W.names,dds⟩
  ·exact ⟨W,fl,⟨eB W.names,dds⟩,rfl,ok,⟨rfl,hdl,hdd,by show _≤_;dsimp only;omega⟩,S9.up (by omega),bb⟩
end Mi
namespace Mi
open PySem Sm L2 Pg
abbrev Rk:=Int×Int
def rkD (r:Rk):D:=.tup [.int r.1,.int r.2]
def rkK (z:List (Str×Rk)):List (Key×D):=z.map fun p=>(.inr p.1,rkD p.2)
def fG (z:List (Str×Rk)) (n:Str):Rk:=((z.find? fun p=>decide (p.1=n)).map (·.2)).getD (0,1)
theorem xi {z:List (Str×Rk)} {n:Str} (h:n∈z.map (·.1)):gy (rkK z) (.inr n)=some (rkD (fG z n))∧∃p∈z,p.2=fG z n:=by
 unfold gy rkK fG
 induction z with
 | nil=>cases h
 | cons p r ih=>
  rw [List.map_cons,List.find?_cons,List.find?_cons]
  by_cases e:p.1=n
  ·subst e
   simp
  ·have z1:decide ((Sum.inr p.1:Key)=Sum.inr n)=false:=decide_eq_false fun q=>e (Sum.inr.inj q)
   have z2:decide (p.1=n)=false:=decide_eq_false e
   dsimp only
   rw [z1,z2]
   obtain ⟨h1,q,hq,h2⟩:=ih ((List.mem_cons.mp h).resolve_left fun y=>e y.symm)
   exact ⟨h1,q,List.mem_cons_of_mem _ hq,h2⟩
theorem oE:∀(ns:List Str) (rs:List Rk),jX (ns.map D.str) (rs.map rkD)=some (rkK (ns.zip rs))
 | [],_=>rfl
 | _::_,[]=>rfl
 | n::ns,r::rs=>by
  rw [List.map_cons,List.map_cons]
  show (iY (.str n)).bind (fun k=>(jX (ns.map D.str) (rs.map rkD)).map fun ps=>(k,rkD r)::ps)=_
  rw [oE ns rs];rfl
theorem mE:∀(ns:List Str) (rs:List Rk),fH (fQ (ns.map D.str) (rs.map rkD))=some (rkK (ns.zip rs))
 | [],_=>rfl
 | _::_,[]=>rfl
 | n::ns,r::rs=>by
  rw [List.map_cons,List.map_cons]
  show (iY (.str n)).bind (fun k=>(fH (fQ (ns.map D.str) (rs.map rkD))).map fun ps=>(k,rkD r)::ps)=_
  rw [mE ns rs];rfl
theorem mL {z:List (Str×Rk)} (nd:(z.map (·.1)).Nodup):d9 [] (rkK z)=rkK z:=iW (acc:=[]) (by
 rw [List.nil_append]
 unfold rkK
 rw [List.map_map,show ((fun x:Key×D=>x.1)∘fun p:Str×Rk=>((.inr p.1:Key),rkD p.2))=Sum.inr∘(·.1) from rfl,←List.map_map]
 rw [List.nodup_iff_pairwise_ne,List.pairwise_map]
 exact nd.imp fun h z=>h (Sum.inr.inj z))
structure Rks (P:Prog) (rs:List Rk):Prop where
 len:rs.length=P.names.length
 few:P.names.length≤1000
 nd:P.names.Nodup
 sd:∀r∈rs,r.2=1∨r.2=-1
theorem Rks.fst {P:Prog} {rs:List Rk} (R:Rks P rs):(P.names.zip rs).map (·.1)=P.names:=by
 rw [List.map_fst_zip];rw [R.len];exact Nat.le_refl _
theorem Rks.at_ {P:Prog} {rs:List Rk} (R:Rks P rs) {n:Str} (h:n∈P.names):gy (rkK (P.names.zip rs)) (.inr n)=some (rkD (fG (P.names.zip rs) n))∧((fG (P.names.zip rs) n).2=1∨(fG (P.names.zip rs) n).2=-1):=by
 obtain ⟨h1,p,hp,h2⟩:=xi (z:=P.names.zip rs) (n:=n) (by rw [R.fst];exact h)
 exact ⟨h1,by rw [←h2];exact R.sd p.2 (List.of_mem_zip (a:=p.1) (b:=p.2) hp).2⟩
theorem sD {m:AM} {δ:DS} {h:MH} {Q:D×MH→Prop} (r:Rn (m δ h) fun p=>∃d e xs ys ws ws' ps,p.1=[d,e]∧bY d p.2=some (xs,ws)∧bY e p.2=some (ys,ws')∧jX xs ys=some ps∧ps.length≤1000000∧Q (.dv (d9 [] ps),p.2)):Rn (nZ m δ h) Q:=
 aP (r.imp fun p ⟨d,e,xs,ys,ws,ws',ps,e1,e2,e3,e4,e5,q⟩=>⟨_,by rw [e1];dsimp only;rw [e2];dsimp only [Option.bind_some];rw [e3];dsimp only [Option.bind_some];rw [e4];dsimp only [Option.bind_some];rw [if_pos e5],q⟩)
theorem u5 {m:AM} {δ:DS} {h:MH} {Q:List D×MH→Prop} (r:Rn (m δ h) fun p=>∃d e xs ys ws ws',p.1=[d,e]∧bY d p.2=some (xs,ws)∧bY e p.2=some (ys,ws')∧min xs.length ys.length≤1000000∧Q (fQ xs ys,p.2)):Rn (wA m δ h) Q:=
 aP (r.imp fun p ⟨d,e,xs,ys,ws,ws',e1,e2,e3,e5,q⟩=>⟨_,by rw [e1];dsimp only;rw [e2];dsimp only [Option.bind_some];rw [e3];dsimp only [Option.bind_some];rw [if_pos e5],q⟩)
def iQ (rs:List Rk) (t:D):D:=.tup [.tup (rs.map rkD),t]
theorem nD {P:Prog} {rs:List Rk} {t:D} {h:MH} (R:Rks P rs):bt [iO P,iQ rs t] h=some (.dv (rkK (P.names.zip rs)),h):=by
 have e:Rn (bt [iO P,iQ rs t] h) fun p=>p=(.dv (rkK (P.names.zip rs)),h):=by
  refine cO ?_
  walk_at "run"
  refine sD ?_
  walk_at "run"
  refine rv (a:=(.tup (P.names.map D.str),h)) rfl ?_
  walk_at "run"
  refine rv (a:=(.tup (rs.map rkD),h)) rfl ?_
  walk_at "run"
  refine ⟨_,_,_,_,_,_,_,rfl,rfl,rfl,oE _ _,?_,?_⟩
  ·unfold rkK
   rw [List.length_map,List.length_zip]
   have:=R.few
   omega
  ·rw [mL (by rw [R.fst];exact R.nd)]
   walk_at "run"
 obtain ⟨p,e1,rfl⟩:=e
 exact e1
def lkD (a:Str) (x:Int):D:=.tup [.str a,.int x]
def ia (z:List (Str×Rk)) (a:Str) (x:Int) (b:Str) (y:Int):Bool:=
 if a=b then decide ((x-y)*(fG z a).2 > 0) else decide ((fG z a).1 > (fG z b).1)
theorem vR {x y s:Int} (h:s=1∨s=-1):(y*s < x*s)↔(x-y)*s > 0:=by rcases h with rfl | rfl <;> omega
theorem vQ {x s:Int} (h:s=1∨s=-1):fy x s=true:=mul_r (by rcases h with rfl | rfl <;> decide) (by rcases h with rfl | rfl <;> decide)
theorem gh {P:Prog} {rs:List Rk} {t:D} {h:MH} {a b:Str} {x y:Int} (R:Rks P rs) (ha:a∈P.names) (hb:b∈P.names):bL [iO P,iQ rs t,lkD a x,lkD b y] h=some (.bl (ia (P.names.zip rs) a x b y),h):=by
 have e:Rn (bL [iO P,iQ rs t,lkD a x,lkD b y] h) fun p=>p=(.bl (ia (P.names.zip rs) a x b y),h):=by
  obtain ⟨va,sa⟩:=R.at_ ha
  obtain ⟨vb,sb⟩:=R.at_ hb
  refine cO ?_
  walk_at "run"
  refine rv (nD R) ?_
  walk_at "run"
  refine rv (a:=(.str a,h)) rfl ?_
  walk_at "run"
  refine rv (gm (kvs:=rkK (P.names.zip rs)) rfl va) ?_
  unfold rkD
  walk_at "run"
  refine rv (a:=(.str b,h)) rfl ?_
  walk_at "run"
  refine rv (gm (kvs:=rkK (P.names.zip rs)) rfl vb) ?_
  walk_at "run"
  refine rv (a:=(.int (fG (P.names.zip rs) b).1,h)) rfl ?_
  walk_at "run"
  refine ⟨_,rfl,fun z=>?_,fun z=>?_⟩
  ·have z:=of_decide_eq_true z
   walk_at "run"
   unfold ia
   rw [if_neg (fun e=>by rw [e] at z;omega),decide_eq_true z]
  ·have z:=of_decide_eq_false z
   walk_at "run"
   refine rv (a:=(.str a,h)) rfl ?_
   walk_at "run"
   refine rv (a:=(.str b,h)) rfl ?_
   walk_at "run"
   refine ⟨_,rfl,fun y1=>?_,fun y1=>?_⟩
   ·have hab:a=b:=by simpa using y1
    walk_at "run"
    refine rv (a:=(.int x,h)) rfl ?_
    walk_at "run"
    refine dW (vQ sa) ?_
    walk_at "run"
    refine rv (a:=(.int y,h)) rfl ?_
    walk_at "run"
    refine dW (vQ sa) ?_
    walk_at "run"
    unfold ia
    rw [if_pos hab,decide_eq_decide.mpr (vR sa)]
   ·have hab:a≠b:=by simpa using y1
    walk_at "run"
    unfold ia
    rw [if_neg hab,decide_eq_false z]
 obtain ⟨p,e1,rfl⟩:=e
 exact e1
theorem mY {P:Prog} {rs:List Rk} {h:MH} {a b:Str} {x y:Int} (R:Rks P rs) (ha:a∈P.names) (hb:b∈P.names):cg [.dv (rkK (P.names.zip rs)),lkD a x,lkD b y] h=some (.bl (ia (P.names.zip rs) a x b y),h):=by
 have e:Rn (cg [.dv (rkK (P.names.zip rs)),lkD a x,lkD b y] h) fun p=>p=(.bl (ia (P.names.zip rs) a x b y),h):=by
  obtain ⟨va,sa⟩:=R.at_ ha
  obtain ⟨vb,sb⟩:=R.at_ hb
  refine cO ?_
  walk_at "run"
  refine rv (a:=(.str a,h)) rfl ?_
  walk_at "run"
  refine rv (a:=(.str b,h)) rfl ?_
  walk_at "run"
  refine ⟨_,rfl,fun y1=>?_,fun y1=>?_⟩
  ·have hab:a=b:=by simpa using y1
   walk_at "run"
   refine rv (a:=(.int x,h)) rfl ?_
   walk_at "run"
   refine rv (a:=(.int y,h)) rfl ?_
   walk_at "run"
   refine rv (a:=(.str a,h)) rfl ?_
   walk_at "run"
   refine rv (gm (kvs:=rkK (P.names.zip rs)) rfl va) ?_
   walk_at "run"
   refine rv (a:=(.int (fG (P.names.zip rs) a).2,h)) rfl ?_
   walk_at "run"
   refine dW (vQ sa) ?_
   walk_at "run"
   unfold ia
   rw [if_pos hab]
  ·have hab:a≠b:=by simpa using y1
   walk_at "run"
   refine rv (a:=(.str a,h)) rfl ?_
   walk_at "run"
   refine rv (gm (kvs:=rkK (P.names.zip rs)) rfl va) ?_
   walk_at "run"
   refine rv (a:=(.int (fG (P.names.zip rs) a).1,h)) rfl ?_
   walk_at "run"
   refine rv (a:=(.str b,h)) rfl ?_
   walk_at "run"
   refine rv (gm (kvs:=rkK (P.names.zip rs)) rfl vb) ?_
   walk_at "run"
   refine rv (a:=(.int (fG (P.names.zip rs) b).1,h)) rfl ?_
   walk_at "run"
   unfold ia
   rw [if_neg hab]
 obtain ⟨p,e1,rfl⟩:=e
 exact e1
theorem tO (z:List (Str×Rk)) (a b:Str) (x y:Int) (hs:(fG z a).2=1∨(fG z a).2=-1) (h:ia z a x b y=true):ia z b y a x=false:=by
 unfold ia at h ⊢
 by_cases e:a=b
 ·subst e
  rw [if_pos rfl] at h ⊢
  have h:=of_decide_eq_true h
  refine decide_eq_false ?_
  rcases hs with s | s <;> rw [s] at h ⊢ <;> omega
 ·rw [if_neg e] at h
  rw [if_neg (Ne.symm e)]
  have h:=of_decide_eq_true h
  exact decide_eq_false (by omega)
end Mi
namespace Mi
open PySem Sm L2 Pg
theorem gX {h:MH} {s c:Nat} {cs:List Int} {B:Nat} (S:Mi.St s c cs B h) (hB:B+10 < 2^60):Rn (bO [.ob s] h) fun p=>∃i:Int,p.1=.int i∧Mi.St s c cs (B+2) p.2∧But s h p.2:=by
 refine cO ?_
 walk_at "run"
 refine rv (a:=(.int (10^29),h)) rfl ?_
 walk_at "run"
 refine rv (a:=(.int (10^29),h)) rfl ?_
 walk_at "run"
 obtain ⟨⟨_,h1⟩,e1,m,rfl,m0,m1,S1,b1⟩:=aX (m:=9) S (by omega) (by decide) (by decide)
 refine rv e1 ?_
 walk_at "run"
 obtain ⟨⟨d,h2⟩,e2,hd,S2,b2⟩:=a9 (d:=.lv ([0,1,-1,5,99,-99,10^29,-(10^29),m-4].map D.int)) S1 (by omega) (.inl rfl) (by simp) (by simp)
 obtain ⟨i,rfl,_⟩:=bU (P:=fun _=>True) hd (fun _ _=>trivial)
 refine rv e2 ?_
 walk_at "run"
 exact ⟨i,rfl,S2,b1.trans b2⟩
theorem law_true (ns:List Int) (hn:ns.length≤63):∃h',oZ [.ro (ns.map D.int)] []=some (.bl true,h'):=by
 have e:Rn (oZ [.ro (ns.map D.int)] []) fun p=>p.1=.bl true:=by
  obtain ⟨cs,ed,S0⟩:=n5 ns hn
  refine cO ?_
  walk_at "run"
  refine rv ed ?_
  walk_at "run"
  refine dZ ?_
  walk_at "run"
  refine ⟨2,rfl,by decide,by decide,?_⟩
  have C0:Cl [.lst (cs.map D.int),.lst [.int 0,.ob 0,.int 0]]:=by
   intro o ho
   rcases List.mem_cons.mp ho with rfl | ho
   ·exact lO _ cs
   ·rw [List.mem_singleton.mp ho];rfl
  refine eV (fun i δ h=>∃v2 v3 v4 v5 v6 v7 v8 v9 v10 v11 v12,δ=[some (.ro (ns.map D.int)),some (.ob 1),v2,v3,v4,v5,v6,v7,v8,v9,v10,v11,v12]∧Mi.St 1 0 cs (10000*i) h∧Cl h)
   ⟨_,_,_,_,_,_,_,_,_,_,_,rfl,S0,C0⟩ (fun _ _ _ _ _=>rfl) ?_ ?_
  ·rintro i x δ h hx ⟨v2,v3,v4,v5,v6,v7,v8,v9,v10,v11,v12,rfl,S,C⟩
   have hi:i < 2:=by
    have:=(List.getElem?_eq_some_iff.mp hx).1
    simpa using this
   walk_at "run"
   obtain ⟨⟨_,h3⟩,e3,W,fl,P,rfl,ok,okp,S3,b3⟩:=kW (most:=8) (odd:=4) S C (by omega) (by decide) (by decide) (by decide)
   refine rv e3 ?_
   have C3:=C.but S3 b3
   dsimp only at S3 b3 C3
   have hnl:P.names.length=W.names.length:=by rw [okp.nm,(c5 W.names).length_eq]
   have n1:=ok.n1
   have n2:=ok.n2
   walk_at "run"
   obtain ⟨⟨d4,h4⟩,e4,hd4,S4,b4⟩:=a9 (d:=.lv ([2,10].map D.int)) S3 (by omega) (.inl rfl) (by simp) (by simp)
   obtain ⟨most,rfl,hm⟩:=bU (P:=fun i=>1≤i∧i≤10) hd4 (by decide)
   refine rv e4 ?_
   have C4:=C3.but S4 b4
   walk_at "run"
   refine eU ?_
   walk_at "run"
   refine rv (a:=(.tup (P.names.map D.str),h4)) rfl ?_
   refine ⟨_,_,rfl,?_⟩
   obtain ⟨⟨ys,h5⟩,e5,a5,δ5,_,S5,b5⟩:=gc (ws:=[]) (g:=gN 0) (e:=eFn ba (ae (eFn ar (ae (af 2) (ae (af 1) ao))) (ae (eFn aw (ae (af 2) (ae (eLv (ae (eK (.int 1)) (ae (eUn g7 (eK (.int 1))) ao))) ao))) ao))) (fun _ y=>∃r:Rk,y=rkD r∧(r.2=1∨r.2=-1))
    (xs:=P.names.map D.str) (δ:=[none,some (.int most),some (.ob 1)]) (h:=h4) (fun i' δ h'=>(∃d0,δ=[d0,some (.int most),some (.ob 1)])∧Mi.St 1 0 cs (10000*i+1200+2*i') h'∧But 1 h4 h') ⟨⟨_,rfl⟩,S4.up (by omega),But.refl _ _⟩ (fun _ _ _ _ _=>rfl) (by
     rintro j x δ h' hx ⟨⟨d0,rfl⟩,Sj,bj⟩
     have hj:j < 6:=by
      have:=(List.getElem?_eq_some_iff.mp hx).1
      rw [List.length_map] at this
      omega
     walk_at "run"
     obtain ⟨⟨_,h7⟩,e7,r,rfl,r0,r1,S7,b7⟩:=aX (m:=most) Sj (by omega) (by omega) (by omega)
     refine rv e7 ?_
     walk_at "run"
     obtain ⟨⟨d8,h8⟩,e8,hd8,S8,b8⟩:=a9 (d:=.lv ([1,-1].map D.int)) S7 (by omega) (.inl rfl) (by simp) (by simp)
     obtain ⟨sd,rfl,hsd⟩:=bU (P:=fun i=>i=1∨i=-1) hd8 (by decide)
     refine rv e8 ?_
     walk_at "run"
     exact ⟨⟨(r,sd),rfl,hsd⟩,⟨_,rfl⟩,S8.up (by omega),bj.trans (b7.trans b8)⟩)
   have l5:=a5.length
   obtain ⟨rs,rfl,hrs⟩:∃rs:List Rk,ys=rs.map rkD∧∀r∈rs,r.2=1∨r.2=-1:=by
    have hr:=a5.right
    clear e5 a5 S5 b5 l5
    dsimp only at hr
    induction ys with
    | nil=>exact ⟨[],rfl,fun _ z=>(nomatch z)⟩
    | cons y r ih=>
     obtain ⟨js,rfl,h1⟩:=ih fun z hz=>hr z (List.mem_cons_of_mem _ hz)
     obtain ⟨x,hx,t,rfl,tk⟩:=hr y List.mem_cons_self
     exact ⟨t::js,rfl,fun j hj=>by
      rcases List.mem_cons.mp hj with rfl | hj
      ·exact tk
      ·exact h1 j hj⟩
   dsimp only at S5 b5 l5
   rw [List.length_map,List.length_map] at l5
   rw [List.length_map] at S5
   have C5:=C4.but S5 b5
   refine rv e5 ⟨by dsimp only;rw [List.length_map,show sizeLine=16777216 from rfl];omega,?_⟩
   have R:Rks P rs:=⟨l5,by omega,by rw [okp.nm];exact (c5 W.names).nodup_iff.mpr ok.nn,hrs⟩
   walk_at "run"
   refine rv (a:=(.tup (rs.map rkD),h5)) rfl ?_
   walk_at "run"
   refine rv (a:=(.tup (P.deeds.map cE),h5)) rfl ?_
   walk_at "run"
   obtain ⟨tk,etk⟩:∃tk,mV (.tup [.tup []]) (.int ((P.deeds.map cE).length:Nat)) h5=some (tk,h5):=by
    have d2:=ok.d2
    refine ⟨.tup (List.replicate ((P.deeds.map cE).length:Int).toNat [.tup []]).flatten,?_⟩
    show (if -1000≤((P.deeds.map cE).length:Int)∧((P.deeds.map cE).length:Int)≤1000∧1≤1000 then _ else _)=_
    rw [if_pos ⟨by omega,by rw [List.length_map,okp.dl];omega,by decide⟩]
   refine rv etk ?_
   walk_at "run"
   refine u5 ?_
   walk_at "run"
   refine rv (a:=(.tup (P.names.map D.str),h5)) rfl ?_
   walk_at "run"
   refine ⟨_,_,_,_,_,_,rfl,rfl,rfl,?_,?_⟩
   ·rw [List.length_map,List.length_map];omega
   walk_at "run"
   refine rv (a:=(.dv (rkK (P.names.zip rs)),h5)) (by
    show (fH (fQ (P.names.map D.str) (rs.map rkD))).bind _=_
    rw [mE]
    show (if (fQ _ _).length≤1000000 then _ else _)=_
    rw [if_pos (by rw [gS,List.length_map,List.length_map];omega),mL (by rw [R.fst];exact R.nd)]) ?_
   walk_at "run"
   refine dZ ?_
   walk_at "run"
   refine ⟨20,rfl,by decide,by decide,?_⟩
   refine eV (fun k δ h'=>(∃v8 v9 v10 v11 v12,δ=[some (.ro (ns.map D.int)),some (.ob 1),some x,some (iO P),some (.int most),some (.tup (rs.map rkD)),some (iQ rs tk),some (.dv (rkK (P.names.zip rs))),v8,v9,v10,v11,v12])∧Mi.St 1 0 cs (10000*i+1300+10*k) h'∧Cl h')
    ⟨⟨_,_,_,_,_,rfl⟩,S5.up (by omega),C5⟩ (fun _ _ _ _ _=>rfl) ?_ ?_
   ·rintro k y δ h' hy ⟨⟨v8,v9,v10,v11,v12,rfl⟩,Sk,Ck⟩
    have hk:k < 20:=by
     have:=(List.getElem?_eq_some_iff.mp hy).1
     simpa using this
    walk_at "run"
    refine rv (a:=(.tup (P.names.map D.str),h')) rfl ?_
    walk_at "run"
    obtain ⟨⟨d6,h6⟩,e6,hd6,S6,b6⟩:=a9 (d:=.tup (P.names.map D.str)) Sk (by omega) (.inr rfl) (by rw [List.length_map];omega) (by rw [List.length_map];omega)
    obtain ⟨a,ha,rfl⟩:=List.mem_map.mp hd6
    refine rv e6 ?_
    walk_at "run"
    obtain ⟨⟨_,h7⟩,e7,p,rfl,S7,b7⟩:=gX S6 (by omega)
    refine rv e7 ?_
    walk_at "run"
    refine rv (a:=(.tup (P.names.map D.str),h7)) rfl ?_
    walk_at "run"
    obtain ⟨⟨d8,h8⟩,e8,hd8,S8,b8⟩:=a9 (d:=.tup (P.names.map D.str)) S7 (by omega) (.inr rfl) (by rw [List.length_map];omega) (by rw [List.length_map];omega)
    obtain ⟨b,hb,rfl⟩:=List.mem_map.mp hd8
    refine rv e8 ?_
    walk_at "run"
    obtain ⟨⟨_,h9⟩,e9,q,rfl,S9,b9⟩:=gX S8 (by omega)
    refine rv e9 ?_
    walk_at "run"
    refine rv (gh (t:=tk) (x:=p) (y:=q) R ha hb) ?_
    walk_at "run"
    refine rv (gh (t:=tk) (x:=q) (y:=p) R hb ha) ?_
    walk_at "run"
    refine ⟨_,_,rfl,?_⟩
    have C9:=(((Ck.but S6 b6).but S7 b7).but S8 b8).but S9 b9
    walk_at "run"
    refine rv rfl ⟨true,rfl,fun z=>(nomatch z),fun _=>?_⟩
    walk_at "run"
    refine rv (mY (x:=p) (y:=q) R ha hb) ?_
    have hnb:∀(c:Bool) (h:MH),fv (.bl c) (.bl c) h=some (.bl false,h):=fun c h=>by
     rw [show fv (.bl c) (.bl c) h=some (.bl (!(c==c)),h) from rfl];simp
    refine rv (hnb _ _) ⟨false,rfl,fun z=>(nomatch z),fun _=>?_⟩
    walk_at "run"
    refine rv (mY (x:=q) (y:=p) R hb ha) ?_
    refine rv (hnb _ _) ⟨false,rfl,fun z=>(nomatch z),fun _=>?_⟩
    walk_at "run"
    refine ⟨_,rfl,fun z=>?_,fun z=>?_⟩
    ·walk_at "run"
     refine ⟨_,rfl,fun z2=>?_,fun _=>?_⟩
     ·have:=tO _ a b p q (R.at_ ha).2 z
      rw [this] at z2
      cases z2
     ·walk_at "run"
      exact ⟨⟨_,_,_,_,_,rfl⟩,S9.up (by omega),C9⟩
    ·refine ⟨fun y=>(nomatch y),fun _=>?_⟩
     walk_at "run"
     exact ⟨⟨_,_,_,_,_,rfl⟩,S9.up (by omega),C9⟩
   ·rintro δ h' ⟨⟨v8,v9,v10,v11,v12,rfl⟩,Sk,Ck⟩
    rw [List.length_map,List.length_range] at Sk
    exact ⟨_,_,_,_,_,_,_,_,_,_,_,rfl,Sk.up (by omega),Ck⟩
  ·rintro δ h ⟨v2,v3,v4,v5,v6,v7,v8,v9,v10,v11,v12,rfl,S,C⟩
   walk_at "run"
 obtain ⟨⟨d,h'⟩,e1,rfl⟩:=e
 exact ⟨h',e1⟩
end Mi
open PySem PySem.W PyProof.Rows
theorem Mi.left:LeftO Mi.pw Mi.view ([]:List Str) (fun s=>xlAt Mi.view [] s&&recOk (RowW.records (OpenRow.toRowW PySem.Challenge.rw_neverstuck_k46_further_locks.row)) s) (fun _=>()) (fun _=>()) 20000:=fun w=>by kernel_rfl
theorem Mi.yV:defOf Mi.view "law"=some (Hd.bR "law" Mi.gU,[]):=by kernel_rfl
theorem Mi.hp:PySem.Program.theDef Mi.pw "law"=some (L2.gn Mi.gU,L2.eu Mi.gU,L2.aD Mi.gU):=by kernel_rfl
theorem PySem.Challenge.cw_neverstuck_k46_further_locks_holds : PySem.Challenge.rw_neverstuck_k46_further_locks.Holds := by
 refine holds_law (by decide+kernel) fun said=>?_
 refine PySem.W.holds_open (q:=Mi.view) (loose:=[]) (Xt:=fun s=>xlAt Mi.view [] s&&recOk (RowW.records (OpenRow.toRowW PySem.Challenge.rw_neverstuck_k46_further_locks.row)) s) (XP:=XL Mi.view []) (Yf:=fun _=>()) (Ya:=fun _=>()) (YP:=fun _ _=>True) (N:=20000) (d:=Hd.bR "law" Mi.gU) (kwd:=[]) Mi.left (fun _ _ _=>trivial) (fun _ _ _ _ _=>trivial) (fun s e=>xl_of s (Bool.and_eq_true_iff.mp e).1) XL.keeps Mi.yV Mi.hp (by kernel_rfl) (fun s e=>recFacts_of (Bool.and_eq_true_iff.mp e).2) (by kernel_rfl) said (by decide+kernel) ⟨rfl,rfl,rfl,rfl,rfl,by decide+kernel⟩ (by w_witness2) ?_
 exact Hd.wg (k:=28) (by kernel_rfl) (by kernel_rfl) ⟨rfl,by decide,by decide⟩ fun w s₀ mg mb h G _=>Mi.all_mk G.T Mi.law_true
