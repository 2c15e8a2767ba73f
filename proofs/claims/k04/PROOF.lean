import PyProof.Rows.All
import Wide.All
import OpenK.AllK
import Wide.FinOn
import Lean
import PyProof.EqAt
import PyProof.EqKinds
import PyProof.TupleCall
import PyProof.AttrMissHeap
import KE.KDictOf
import PyProof.ConsumeWalk
import PyProof.ZipIter
import PyProof.EnumMake
import KE.KEqDict
import KE.KDictSum
import PyProof.ListRange
import PyProof.NeKinds
import PyProof.Rows.SortShell
import PySem.Challenge.RW_neverstuck_k04_rows_numbered
set_option Elab.async false
set_option linter.all false
set_option maxRecDepth 100000
set_option maxHeartbeats 4000000
noncomputable section
namespace L2
open PySem PySem.Spec PyProof.Rows
abbrev Key:=Sum Int Str
def kW:Key→Value→Bool
 | .inl k,v=>Value.isInt k v
 | .inr x,v=>Value.isStrOf x v
def z8 (w:World):Key→Int
 | .inl k=>hashInt k
 | .inr x=>hashStr w x
theorem bO:∀{k:Key} {v:Value},kW k v=true→(∃i t,k=Sum.inl i∧v=Value.int i t)∨(∃x t,k=Sum.inr x∧v=Value.str x t)
 | .inl i,v,h=>by
  obtain ⟨t,e⟩:=Value.isInt_shape (k:=i) (v:=v) h
  exact .inl ⟨i,t,rfl,e⟩
 | .inr x,v,h=>by
  obtain ⟨t,e⟩:=Value.isStrOf_shape (x:=x) (v:=v) h
  exact .inr ⟨x,t,rfl,e⟩
theorem qH (i:Int) (t:Tok):kW (.inl i) (.int i t)=true:=by simp [kW,Value.isInt]
theorem qG (x:Str) (t:Tok):kW (.inr x) (.str x t)=true:=by simp [kW,Value.isStrOf]
theorem xw (a b:Int):decide ((Sum.inl a:Key)=Sum.inl b)=(a==b):=by
 by_cases e:a=b
 ·subst e;simp
 ·have h:¬(Sum.inl a:Key)=Sum.inl b:=fun q=>e (Sum.inl.inj q)
  rw [decide_eq_false h]
  exact (beq_eq_false_iff_ne.mpr e).symm
theorem xt (a b:Str):decide ((Sum.inr a:Key)=Sum.inr b)=decide (a=b):=by
 by_cases e:a=b
 ·subst e;simp
 ·have h:¬(Sum.inr a:Key)=Sum.inr b:=fun q=>e (Sum.inr.inj q)
  rw [decide_eq_false h,decide_eq_false e]
theorem xv (a:Int) (b:Str):decide ((Sum.inl a:Key)=Sum.inr b)=false:=decide_eq_false (fun q=>nomatch q)
theorem xu (a:Str) (b:Int):decide ((Sum.inr a:Key)=Sum.inl b)=false:=decide_eq_false (fun q=>nomatch q)
def bU (prog:Program) (w:World):PySem.KeyKind prog w Key where
 is:=kW
 hash:=z8 w
 inj:=fun v a b ha hb=>by
  rcases bO ha with ⟨i,t,rfl,rfl⟩ | ⟨x,t,rfl,rfl⟩
  ·rcases bO hb with ⟨j,u,rfl,e⟩ | ⟨y,u,rfl,e⟩
   ·injection e with e1 _;rw [e1]
   ·exact nomatch e
  ·rcases bO hb with ⟨j,u,rfl,e⟩ | ⟨y,u,rfl,e⟩
   ·exact nomatch e
   ·injection e with e1 _;rw [e1]
 byValue:=fun k v h=>by
  rcases bO h with ⟨i,t,rfl,rfl⟩ | ⟨x,t,rfl,rfl⟩ <;> rfl
 pyHash:=fun hv h=>by
  rcases bO hv with ⟨i,t,rfl,rfl⟩ | ⟨x,t,rfl,rfl⟩
  ·exact wpAny_pyHash_int h
  ·exact wpAny_pyHash_str h
 eqBool:=fun hu hv h=>by
  rcases bO hu with ⟨i,t,rfl,rfl⟩ | ⟨x,t,rfl,rfl⟩
  ·rcases bO hv with ⟨j,u,rfl,rfl⟩ | ⟨y,u,rfl,rfl⟩
   ·rw [xw] at h;exact wpAny_eqBool_int h
   ·rw [xv] at h;exact SeqAt.EqAt.int_str i t y u _ _ _ _ h
  ·rcases bO hv with ⟨j,u,rfl,rfl⟩ | ⟨y,u,rfl,rfl⟩
   ·rw [xu] at h;exact SeqAt.EqAt.str_int x t j u _ _ _ _ h
   ·rw [xt] at h;exact wpAny_eqBool_str h
 «strs»:=fun k x t v h=>by
  rcases bO h with ⟨i,u,rfl,e⟩ | ⟨y,u,rfl,e⟩
  ·exact nomatch e
  ·injection e with e1 _
   subst e1
   cases v <;> rfl
theorem nV (prog:Program) (w:World) (i:Int) (t:Tok):(bU prog w).is (.inl i) (.int i t)=true:=qH i t
theorem nU (prog:Program) (w:World) (x:Str) (t:Tok):(bU prog w).is (.inr x) (.str x t)=true:=qG x t
end L2
namespace L2
open PySem PySem.Spec PyProof.Rows
inductive V where
 | non | bl (b:Bool) | int (i:Int) | str (x:Str) | byt (b:Array UInt8) | flt (b:UInt64) | ref (a:Addr) | ty (n:String)
 deriving DecidableEq
def RelV:V→Value→Prop
 | .non,u=>u=Value.none
 | .bl b,u=>u=Value.bool b
 | .int i,u=>∃t,u=Value.int i t
 | .str x,u=>∃t,u=Value.str x t
 | .byt b,u=>∃t,u=Value.bytes b t
 | .flt b,u=>∃t,u=Value.float b t
 | .ref a,u=>u=Value.ref a
 | .ty n,u=>u=Value.type n
abbrev Vals:List V→List Value→Prop:=Paired RelV
theorem Vals.length {xs:List V} {us:List Value} (r:Vals xs us):xs.length=us.length:=Paired.length r
theorem Vals.get:∀{xs:List V} {us:List Value} {i:Nat} {x:V},Vals xs us→xs[i]?=some x→∃u,us[i]?=some u∧RelV x u
 | _,_,_,_,.nil,e=>by simp at e
 | _,_,0,_,.cons r _,e=>by simp at e;subst e;exact ⟨_,rfl,r⟩
 | _,_,i+1,x,.cons _ t,e=>by
  obtain ⟨u,h1,h2⟩:=Vals.get (i:=i) (x:=x) t (by simpa using e)
  exact ⟨u,by simpa using h1,h2⟩
theorem Vals.set {x:V} {u:Value} (r:RelV x u):∀{xs:List V} {us:List Value} (i:Nat),Vals xs us→Vals (xs.set i x) (us.set i u)
 | _,_,_,.nil=>.nil
 | _,_,0,.cons _ t=>.cons r t
 | _,_,i+1,.cons q t=>.cons q (Vals.set r i t)
theorem Vals.append:∀{xs ys:List V} {us ws:List Value},Vals xs us→Vals ys ws→Vals (xs++ys) (us++ws)
 | _,_,_,_,.nil,s=>s
 | _,_,_,_,.cons r t,s=>.cons r (Vals.append t s)
theorem Vals.take:∀{xs:List V} {us:List Value} (n:Nat),Vals xs us→Vals (xs.take n) (us.take n)
 | _,_,0,_=>.nil
 | _,_,_+1,.nil=>.nil
 | _,_,n+1,.cons r t=>.cons r (Vals.take n t)
theorem Vals.drop:∀{xs:List V} {us:List Value} (n:Nat),Vals xs us→Vals (xs.drop n) (us.drop n)
 | _,_,0,r=>r
 | _,_,_+1,.nil=>.nil
 | _,_,n+1,.cons _ t=>Vals.drop n t
def jR:Option V→Option Value→Prop
 | some v,some u=>RelV v u
 | none,none=>True
 | _,_=>False
def KV {κ:Type}:List (κ×V)→List (κ×Value)→Prop:=Paired fun (p:κ×V) (q:κ×Value)=>p.1=q.1∧RelV p.2 q.2
def kV:Key→V
 | .inl i=>.int i
 | .inr x=>.str x
inductive HO where
 | lst (xs:List V)
 | tup (xs:List V)
 | dK (kvs:List (Key×V)) | dT (kvs:List (List Key×V))
 | set (S:Int→Bool) (n:Nat)
 | ins (C dx:Addr) (fs:List (Str×V))
 | own (x:Addr)
 | xd (fs:List (Str×V))
 | met (f x:Addr)
 | rng (lo hi:Int)
 | frz (o:Obj) (u:HO)
 | tbl (ps:Array Value)
 | ext (φ:Heap→Prop)
abbrev Hp:=Addr→Option HO
def upd (H:Hp) (a:Addr) (o:HO):Hp:=fun b=>if b=a then some o else H b
theorem aS {H:Hp} {a:Addr} {o:HO}:upd H a o a=some o:=by unfold upd;rw [if_pos rfl]
theorem aD {H:Hp} {a b:Addr} {o:HO} (h:b≠a):upd H a o b=H b:=by unfold upd;rw [if_neg h]
theorem yY {H:Hp} {a b:Addr} {o u:HO} (h:H a=some o) (h':H b=some u) (d:o≠u):a≠b:=by
 intro e;subst e;rw [h] at h';exact d (Option.some.inj h')
theorem aQ {H:Hp} {a b:Addr} {o:HO} (h:H a=some o) (h':H b=none):a≠b:=by
 intro e;subst e;rw [h] at h';cases h'
def nv (h:Heap) (a:Addr) (items:Array Value):Prop:=∃o,h.get? a=some o∧o.cls=.type "tuple"∧(∃n,o.data=.seq items n)∧o.dict=none
theorem nv.tup {h:Heap} {a:Addr} {items:Array Value} (x:nv h a items):IsTup h a items:=let ⟨o,e,c,d,_⟩:=x;⟨o,e,c,d⟩
theorem nv.new (h:Heap) (items:Array Value):nv (h.push {cls:=.type "tuple",data:=.seq items}) h.objs.size items:=⟨_,Heap.get?_push_size _ rfl,rfl,⟨_,rfl⟩,rfl⟩
section
variable (P:Program) (w:World)
def bZ (H:Hp) (h:Heap) (a:Addr):HO→Prop
 | .lst xs=>xs.length≤sizeLine∧∃(its:List Value) (n:Nat),Vals xs its∧h.get? a=some {cls:=.type "list",data:=.seq its.toArray n}
 | .tup xs=>xs.length≤sizeLine∧∃its:List Value,Vals xs its∧nv h a its.toArray
 | .dK kvs=>kvs.length≤sizeLine∧(a==sysModules)=false∧∃vs,KV kvs vs∧h.DictOf (bU P w) a vs
 | .dT kvs=>kvs.length≤sizeLine∧(a==sysModules)=false∧∃xs:List (List Key×Addr×Value),
   Paired (fun (p:List Key×V) (q:List Key×Addr×Value)=>p.1=q.1∧H q.2.1=some (.tup (p.1.map kV))∧RelV p.2 q.2.2) kvs xs∧
   ∃o es ep,h.get? a=some o∧o.ExactDict∧o.data=.dict es ep∧es.toList=xs.map (entryOfKey (tupleKind (bU P w)))∧(xs.map (·.1)).Nodup
 | .set S n=>h.SetOf (intKind P w) a S n
 | .ins C dx fs=>H dx=some (.own a)∧fs.length≤1000∧dx≠a∧h.get? a=some (PySem.W.instObj C dx)∧
   ∃mA,h.Ns1 dx mA∧(∀f,jR (fs.lookup f) (mA f))∧PySem.Within mA (fs.map (·.1))
 | .own _=>∃o,h.get? a=some o
 | .xd fs=>∃mA,h.Ns1 a mA∧∀f,jR (fs.lookup f) (mA f)
 | .rng lo hi=>∃t u v,h.get? a=some {cls:=.type "range",data:=.fields #[.int lo t,.int hi u,.int 1 v]}
 | .frz o u=>h.get? a=some o∧bZ H h a u
 | .tbl ps=>h.get? a=some {cls:=.none,data:=.fields ps}
 | .met f x=>h.get? a=some (PySem.W.methodObj (.ref f) (.ref x))
 | .ext φ=>φ h∧(∃o,h.get? a=some o)∧∀h1 h2:Heap,φ h1→(∀o,h1.get? a=some o→h2.get? a=some o)→φ h2
def HOk (H:Hp) (h:Heap):Prop:=∀a o,H a=some o→bZ P w H h a o
end
section
variable {P:Program} {w:World} {H H':Hp} {h h':Heap} {a:Addr} {o:HO}
theorem bZ.lt (x:bZ P w H h a o):a < h.objs.size:=by
 cases o with
 | lst xs=>obtain ⟨_,_,_,_,e⟩:=x;exact Heap.lt_size e
 | tup xs=>obtain ⟨_,_,_,p⟩:=x;exact p.tup.lt
 | dK kvs=>obtain ⟨_,_,_,_,o,_,_,e,_⟩:=x;exact Heap.lt_size e
 | dT kvs=>obtain ⟨_,_,_,_,o,_,_,e,_⟩:=x;exact Heap.lt_size e
 | set S n=>obtain ⟨o,_,_,_,e,_⟩:=x;exact Heap.lt_size e
 | ins C dx fs=>obtain ⟨_,_,_,e,_⟩:=x;exact Heap.lt_size e
 | own y=>obtain ⟨_,e⟩:=x;exact Heap.lt_size e
 | xd fs=>obtain ⟨_,⟨_,_,_,e,_⟩,_⟩:=x;exact Heap.lt_size e
 | rng lo hi=>obtain ⟨_,_,_,e⟩:=x;exact Heap.lt_size e
 | frz ob u=>obtain ⟨e,_⟩:=x;exact Heap.lt_size e
 | tbl ps=>exact Heap.lt_size (show h.get? a=some _ from x)
 | met f y=>exact Heap.lt_size (show h.get? a=some _ from x)
 | ext φ=>obtain ⟨_,⟨_,e⟩,_⟩:=x;exact Heap.lt_size e
theorem Paired.xn {α β:Type} {F G:α→β→Prop}:∀{l₁:List α} {l₂:List β},Paired F l₁ l₂→(∀a b,F a b→G a b)→Paired G l₁ l₂
 | _,_,.nil,_=>.nil
 | _,_,.cons r t,f=>.cons (f _ _ r) (Paired.xn t f)
theorem bZ.nD (x:bZ P w H h a o) (k:∀b u,(b=a∨H b=some (.own a))→h.get? b=some u→h'.get? b=some u)
  (ho:∀b,H b=some (.own a)→H' b=some (.own a)) (ht:∀b xs,H b=some (.tup xs)→H' b=some (.tup xs)):bZ P w H' h' a o:=by
 induction o with
 | lst xs=>obtain ⟨z,its,n,r,e⟩:=x;exact ⟨z,its,n,r,k _ _ (.inl rfl) e⟩
 | tup xs=>obtain ⟨z,its,r,ob,e,c⟩:=x;exact ⟨z,its,r,ob,k _ _ (.inl rfl) e,c⟩
 | dK kvs=>obtain ⟨z,y,vs,r,ob,es,ep,e,c⟩:=x;exact ⟨z,y,vs,r,ob,es,ep,k _ _ (.inl rfl) e,c⟩
 | dT kvs=>
  obtain ⟨z,y,xs,r,ob,es,ep,e,c⟩:=x
  exact ⟨z,y,xs,Paired.xn r fun p q z=>⟨z.1,ht _ _ z.2.1,z.2.2⟩,ob,es,ep,k _ _ (.inl rfl) e,c⟩
 | set S n=>obtain ⟨ob,es,ep,t,e,c⟩:=x;exact ⟨ob,es,ep,t,k _ _ (.inl rfl) e,c⟩
 | ins C dx fs=>
  obtain ⟨d,z,ne,e,mA,⟨od,es,ep,e2,c⟩,r⟩:=x
  exact ⟨ho _ d,z,ne,k _ _ (.inl rfl) e,mA,⟨od,es,ep,k _ _ (.inr d) e2,c⟩,r⟩
 | own y=>obtain ⟨ob,e⟩:=x;exact ⟨ob,k _ _ (.inl rfl) e⟩
 | xd fs=>obtain ⟨mA,⟨od,es,ep,e,c⟩,r⟩:=x;exact ⟨mA,⟨od,es,ep,k _ _ (.inl rfl) e,c⟩,r⟩
 | rng lo hi=>obtain ⟨t,u,v,e⟩:=x;exact ⟨t,u,v,k _ _ (.inl rfl) e⟩
 | frz ob u ih=>obtain ⟨e,q⟩:=x;exact ⟨k _ _ (.inl rfl) e,ih q⟩
 | tbl ps=>
  have e:h.get? a=some {cls:=.none,data:=.fields ps}:=x
  show h'.get? a=some {cls:=.none,data:=.fields ps}
  exact k a _ (.inl rfl) e
 | met f y=>
  have e:h.get? a=some (PySem.W.methodObj (.ref f) (.ref y)):=x
  show h'.get? a=some (PySem.W.methodObj (.ref f) (.ref y))
  exact k a _ (.inl rfl) e
 | ext φ=>obtain ⟨p,⟨o,e⟩,st⟩:=x;exact ⟨st _ _ p fun o q=>k _ _ (.inl rfl) q,⟨o,k _ _ (.inl rfl) e⟩,st⟩
theorem HOk.lt (x:HOk P w H h) (e:H a=some o):a < h.objs.size:=(x a o e).lt
theorem HOk.fresh (x:HOk P w H h) (e:h.objs.size≤a):H a=none:=by
 cases q:H a with
 | none=>rfl
 | some u=>exact absurd (Nat.lt_of_lt_of_le (x.lt q) e) (Nat.lt_irrefl _)
theorem HOk.kept (x:HOk P w H h) (k:∀b u,h.get? b=some u→h'.get? b=some u):HOk P w H h':=fun a o e=>
 (x a o e).nD (fun b u _ q=>k b u q) (fun _ q=>q) fun _ _ q=>q
theorem HOk.laid (x:HOk P w H h) (k:∀b u,h.get? b=some u→h'.get? b=some u) (hp:h.objs.size≤a) (new:bZ P w (upd H a o) h' a o):HOk P w (upd H a o) h':=fun b u e=>by
 have hn:=x.fresh hp
 by_cases hb:b=a
 ·subst hb;rw [aS] at e;cases e;exact new
 ·rw [aD hb] at e
  exact (x b u e).nD (fun c v _ q=>k c v q) (fun c q=>by rw [aD (aQ q hn)];exact q) fun c xs q=>by rw [aD (aQ q hn)];exact q
end
def Rd (H:Hp) (a:Addr) (u:HO):Prop:=H a=some u∨∃o,H a=some (.frz o u)
theorem Rd.ok {P:Program} {w:World} {H:Hp} {h:Heap} {a:Addr} {u:HO} (r:Rd H a u) (x:HOk P w H h):bZ P w H h a u:=by
 rcases r with r | ⟨o,r⟩
 ·exact x a u r
 ·obtain ⟨_,q⟩:=x a _ r
  exact q
def Mut:Option HO→Prop
 | some (.lst _)=>True
 | some (.dK _)=>True
 | some (.dT _)=>True
 | some (.set _ _)=>True
 | some (.ins _ _ _)=>True
 | some (.ext _)=>True
 | _=>False
section
variable {P:Program} {w:World} {H:Hp} {h h':Heap} {x e:Addr} {o':HO}
theorem HOk.write (ok:HOk P w H h) (mu:Mut (H x)) (he:e=x∨H e=some (.own x)) (k:∀b u,b≠e→h.get? b=some u→h'.get? b=some u) (heo:∃u,h'.get? e=some u)
  (new:bZ P w (upd H x o') h' x o'):HOk P w (upd H x o') h':=fun b u q=>by
 have nown:∀c y,H c=some (.own y)→c≠x:=fun c y r z=>by subst z;rw [r] at mu;exact mu
 have ntup:∀c xs,H c=some (.tup xs)→c≠x:=fun c xs r z=>by subst z;rw [r] at mu;exact mu
 by_cases hb:b=x
 ·subst hb;rw [aS] at q;cases q;exact new
 ·rw [aD hb] at q
  by_cases hbe:b=e
  ·have q':H b=some (.own x):=by
    rcases he with z | z
    ·exact absurd (hbe.trans z) hb
    ·rw [hbe];exact z
   rw [q] at q';cases q'
   obtain ⟨v,hv⟩:=heo
   exact ⟨v,by rw [hbe];exact hv⟩
  ·refine (ok b u q).nD (fun c v hc r=>k c v ?_ r) (fun c r=>by rw [aD (nown c b r)];exact r) fun c xs r=>by rw [aD (ntup c xs r)];exact r
   rcases hc with rfl | hc
   ·exact hbe
   ·rintro rfl
    rcases he with z | z
    ·exact nown c b hc z
    ·rw [hc] at z;cases z;exact hb rfl
end
structure Un (fs ex:List Addr) (H H':Hp) (h h':Heap):Prop where
 keep:∀b o,h.get? b=some o→H b=none→b∉fs→b∉ex→h'.get? b=some o
 slot:∀b o,h.get? b=some o→H b=none→b∈fs→b∉ex→∃sl,h'.get? b=some {o with slots:=sl}
 free:∀b o,h.get? b=some o→H b=none→b∉ex→H' b=none
 there:∀b o,h.get? b=some o→b∉ex→∃o',h'.get? b=some o'
 tups:∀b xs,H b=some (.tup xs)→H' b=some (.tup xs)
 frzs:∀b o u,H b=some (.frz o u)→H' b=some (.frz o u)
 tbls:∀b ps,H b=some (.tbl ps)→∃more,H' b=some (.tbl (ps++more))
section
variable {fs fs' ex ex':List Addr} {H H1 H2:Hp} {h h1 h2 h':Heap} {a x e:Addr} {o:HO}
theorem Un.any (u:Un fs ex H H1 h h1) {b:Addr} {ob:Obj} (q:h.get? b=some ob) (n:H b=none) (hx:b∉ex):∃sl,h1.get? b=some {ob with slots:=sl}:=by
 by_cases hb:b∈fs
 ·exact u.slot b ob q n hb hx
 ·exact ⟨ob.slots,u.keep b ob q n hb hx⟩
theorem Un.kept (k:∀b u,h.get? b=some u→h'.get? b=some u):Un fs ex H H h h':=
 ⟨fun b ob q _ _ _=>k b ob q,fun b ob q _ _ _=>⟨ob.slots,k b ob q⟩,fun _ _ _ n _=>n,fun b ob q _=>⟨ob,k b ob q⟩,fun _ _ q=>q,fun _ _ _ q=>q,fun _ ps q=>⟨#[],by rw [q];simp⟩⟩
theorem Un.refl:Un fs ex H H h h:=Un.kept fun _ _ q=>q
theorem Un.laid (k:∀b u,h.get? b=some u→h'.get? b=some u) (hp:h.objs.size≤a) (hn:H a=none):Un fs ex H (upd H a o) h h' where
 keep:=fun b u q _ _ _=>k b u q
 slot:=fun b u q _ _ _=>⟨u.slots,k b u q⟩
 free:=fun b u q n _=>by rw [aD (Nat.ne_of_lt (Nat.lt_of_lt_of_le (Heap.lt_size q) hp))];exact n
 there:=fun b u q _=>⟨u,k b u q⟩
 tups:=fun b xs q=>by rw [aD (aQ q hn)];exact q
 frzs:=fun b u xs q=>by rw [aD (aQ q hn)];exact q
 tbls:=fun b ps q=>⟨#[],by rw [aD (aQ q hn),q];simp⟩
theorem Un.write (mu:Mut (H x)) (he:e=x∨H e=some (.own x)) (k:∀b u,b≠e→h.get? b=some u→h'.get? b=some u) (heo:∃u,h'.get? e=some u):Un fs ex H (upd H x o) h h':=by
 have hx:∀b,H b=none→b≠x:=fun b n z=>by subst z;rw [n] at mu;exact mu
 have hb:∀b,H b=none→b≠e:=fun b n z=>by
  subst z
  rcases he with r | r
  ·exact hx b n r
  ·rw [n] at r;cases r
 have hm:∀b u,H b=some u→¬Mut (some u)→b≠x:=fun b u q nm z=>by subst z;rw [q] at mu;exact nm mu
 refine ⟨fun b u q n _ _=>k b u (hb b n) q,fun b u q n _ _=>⟨u.slots,k b u (hb b n) q⟩,fun b u q n _=>by rw [aD (hx b n)];exact n,fun b u q _=>?_,
  fun b xs q=>by rw [aD (hm b _ q fun z=>z)];exact q,fun b u xs q=>by rw [aD (hm b _ q fun z=>z)];exact q,fun b ps q=>⟨#[],by rw [aD (hm b _ q fun z=>z),q];simp⟩⟩
 by_cases hbe:b=e
 ·subst hbe;exact heo
 ·exact ⟨u,k b u hbe q⟩
end
def trk (h:Heap) (H:Hp):List Addr:=(List.range h.objs.size).filter fun a=>(H a).isSome
def mH (h:Heap) (H:Hp):Heap:=PySem.W.hideAll h (trk h H)
theorem qL (h:Heap) (H:Hp):(mH h H).objs.size=h.objs.size:=PySem.W.hideAll_size _ _
theorem sR {h:Heap} {H:Hp} {b:Addr} {o:Obj} (e:h.get? b=some o) (n:H b=none):(mH h H).get? b=some o:=
 PySem.W.hideAll_get _ e fun hm=>by
  have q:(H b).isSome=true:=(List.mem_filter.mp hm).2
  rw [n] at q;simp at q
theorem uW {h:Heap} {H:Hp} {b:Addr} {o:Obj} (e:(mH h H).get? b=some o):h.get? b=some o∧H b=none:=by
 have e':h.get? b=some o:=PySem.W.of_hideAll (trk h H) e
 refine ⟨e',?_⟩
 cases q:H b with
 | none=>rfl
 | some x=>
  have hm:b∈trk h H:=List.mem_filter.mpr ⟨List.mem_range.mpr (Heap.lt_size e'),by simp [q]⟩
  have z:(mH h H).get? b=none:=PySem.W.hideAll_none (trk h H) hm
  rw [z] at e;cases e
end L2
namespace L2
open PySem PySem.Spec PyProof.Rows
structure Mod (K:PySem.W.Frag) (mg:Str→Option Value) (base:Heap):Prop where
 kin:K.In base
 glob:base.Ns mainGlobals mg
 blt:∃mb,base.Ns builtinsNs mb∧∀x:Str,x≠"__name__"→mb x=bootBuiltins x
 nolimit:base.NoLimit
structure Cx where
 prog:Program
 w:World
 K:PySem.W.Frag
 mg:Str→Option Value
 base:Heap
 A:Around
 N:List Str
 s₀:Shared
 H₀:Hp
 env:Env
 outer:List Env
 stack:List Env
 ex:List Addr
 fn:Str→Bool
 calm:Bool
 pn:List (Addr×Obj)
 xe:Value→Shared→Prop
def frs (l:List Env):List Addr:=l.filterMap (·.frame)
abbrev Cx.fs (X:Cx):List Addr:=frs X.outer
def Vis (sc:Scope) (x:Str):Prop:=sc.names.lookup x=some .local∨sc.names.lookup x=some .cell∨sc.names.lookup x=some .free
def Loc (sc:Scope) (x:Str):Prop:=sc.names.lookup x=some .local∨sc.names.lookup x=some .cell
def Look (env:Env) (h:Heap) (m:Str→Option Value) (x:Str) (u:Value):Prop:=
 (env.kindOf x=some .local∧m x=some u)∨((env.kindOf x=some .cell∨env.kindOf x=some .free)∧∃c,env.cells.lookup x=some c∧h.IsCell c (some u))
structure Cx.Ok (X:Cx):Prop where
 mod:Mod X.K X.mg X.base
 kind:X.env.scope.kind=.function
 glob:X.env.globals=mainGlobals
 blt:X.env.builtins=builtinsNs
 above:X.s₀.heap.objs.size≤X.env.locals
 inj:∀x y c,X.env.cells.lookup x=some c→X.env.cells.lookup y=some c→x=y
 has:∀x,(X.env.kindOf x=some .cell∨X.env.kindOf x=some .free)→∃c,X.env.cells.lookup x=some c
 cab:∀x c,X.fn x=true→X.env.cells.lookup x=some c→X.s₀.heap.objs.size≤c
 hd:X.calm=true→X.A.handled=none
 frames:X.A.frames=some X.stack
 stk:X.stack=X.outer∨(X.stack=X.env::X.outer∧X.env.frame=some X.env.locals)
 exf:∀b∈X.ex,b≠X.env.locals∧∀x c,X.env.cells.lookup x=some c→c≠b
 bs:∀b o,X.base.get? b=some o→X.s₀.heap.get? b=some o∧X.H₀ b=none
 bsz:X.base.objs.size≤X.s₀.heap.objs.size
 noex:∀b o,X.base.get? b=some o→b∉X.ex
 exfs:∀b∈X.ex,b∉X.fs
 jA:X.s₀.heap.FunFrames X.base X.outer
 frf:∀b∈X.fs,X.H₀ b=none
structure Inv (X:Cx) (pins:List (Addr×Obj)) (σ:List (Option V)) (H:Hp) (s:Shared):Prop where
 ok:X.Ok
 os:s.os=X.s₀.os
 bare:AllBare s.gens
 base:Un X.fs X.ex X.H₀ H X.s₀.heap s.heap
 loc:∃m,s.heap.Ns X.env.locals m∧∀(i:Nat) (x:Str) (v:V),X.N[i]?=some x→σ[i]?=some (some v)→Vis X.env.scope x→∃u,RelV v u∧Look X.env s.heap m x u
 cell:∀x c,X.env.cells.lookup x=some c→∃v,s.heap.IsCell c v
 free:H X.env.locals=none
 freeC:∀x c,X.env.cells.lookup x=some c→H c=none
 pin:∀p∈X.pn++pins,s.heap.get? p.1=some p.2∧H p.1=none∧p.1≠X.env.locals∧p.1∉X.fs∧∀v,p.2.data≠.cell v
 hok:HOk X.prog X.w H s.heap
 len:σ.length=X.N.length
section
variable {X:Cx} {pins:List (Addr×Obj)} {σ:List (Option V)} {H H':Hp} {s:Shared} {h':Heap}
theorem Cx.Ok.zW (ok:X.Ok) {b:Addr} {o:Obj} (e:X.base.get? b=some o):b∉X.fs:=fun hb=>by
 have:=(ok.jA.mem hb).1
 rw [e] at this;cases this
theorem Inv.bs (I:Inv X pins σ H s):∀b o,X.base.get? b=some o→s.heap.get? b=some o∧H b=none:=fun b o e=>
 ⟨I.base.keep b o (I.ok.bs b o e).1 (I.ok.bs b o e).2 (I.ok.zW e) (I.ok.noex b o e),I.base.free b o (I.ok.bs b o e).1 (I.ok.bs b o e).2 (I.ok.noex b o e)⟩
theorem Inv.bk (I:Inv X pins σ H s):∀b o,X.base.get? b=some o→s.heap.get? b=some o:=fun b o e=>(I.bs b o e).1
theorem Inv.mod (I:Inv X pins σ H s):Mod X.K X.mg X.base:=I.ok.mod
theorem Inv.kIn (I:Inv X pins σ H s):X.K.In s.heap:=I.ok.mod.kin.keeps I.bk
theorem Inv.lt (I:Inv X pins σ H s):X.env.locals < s.heap.objs.size:=let ⟨_,hn,_⟩:=I.loc;hn.lt
theorem Inv.sz (I:Inv X pins σ H s):X.s₀.heap.objs.size≤s.heap.objs.size:=Nat.le_trans I.ok.above (Nat.le_of_lt I.lt)
theorem Inv.zV (I:Inv X pins σ H s) {a:Addr} (h:s.heap.objs.size≤a):a∉X.fs:=fun hb=>by
 obtain ⟨_,o,ho,_⟩:=I.ok.jA.mem hb
 exact absurd (Nat.lt_of_lt_of_le (Heap.lt_size ho) (Nat.le_trans I.sz h)) (Nat.lt_irrefl _)
theorem Inv.cne (I:Inv X pins σ H s):∀x c,X.env.cells.lookup x=some c→c≠X.env.locals:=fun x c e z=>by
 obtain ⟨v,o,ho,hd⟩:=I.cell x c e
 obtain ⟨m,⟨o',es,ep,ho',hd',_⟩,_⟩:=I.loc
 rw [z,ho'] at ho;cases ho;rw [hd'] at hd;cases hd
theorem Inv.jA (I:Inv X pins σ H s):s.heap.FunFrames X.base X.outer:=by
 have all:∀(l:List Env),(∀b∈frs l,b∈X.fs)→X.s₀.heap.FunFrames X.base l→s.heap.FunFrames X.base l:=by
  intro l
  induction l with
  | nil=>intro _ _;trivial
  | cons env r ih=>
   intro hs hl
   obtain ⟨hk,⟨L,o,hf,hn,ho,hd⟩,hr⟩:=hl
   have hL:L∈X.fs:=hs L (by unfold frs;rw [List.filterMap_cons,hf];exact List.mem_cons_self)
   obtain ⟨sl,e⟩:=I.base.slot L o ho (I.ok.frf L hL) hL fun z=>I.ok.exfs L z hL
   exact ⟨hk,⟨L,_,hf,hn,e,hd⟩,ih (fun b hb=>hs b (by unfold frs;rw [List.filterMap_cons,hf];exact List.mem_cons_of_mem _ hb)) hr⟩
 exact all X.outer (fun _ hb=>hb) I.ok.jA
theorem Inv.stack (I:Inv X pins σ H s):s.heap.FunFrames X.base X.stack:=by
 rcases I.ok.stk with e | ⟨e,hf⟩
 ·rw [e];exact I.jA
 ·rw [e]
  obtain ⟨m,hn,_⟩:=I.loc
  refine .cons (by rw [I.ok.kind];decide) hf hn ?_ I.jA
  exact Heap.get?_none_of_le (Nat.le_trans I.ok.bsz I.ok.above)
theorem Inv.i9 (I:Inv X pins σ H s):∀b∈frs X.stack,b∈X.env.locals::X.fs:=fun b hb=>by
 rcases I.ok.stk with e | ⟨e,hf⟩
 ·rw [e] at hb;exact List.mem_cons_of_mem _ hb
 ·rw [e] at hb
  unfold frs at hb
  rw [List.filterMap_cons,hf] at hb
  exact hb
theorem Inv.pM (I:Inv X pins σ H s):∀b∈frs X.stack,H b=none:=fun b hb=>by
 rcases List.mem_cons.mp (I.i9 b hb) with e | hb
 ·rw [e];exact I.free
 ·obtain ⟨_,o,ho,_⟩:=I.ok.jA.mem hb
  exact I.base.free b o ho (I.ok.frf b hb) fun z=>I.ok.exfs b z hb
theorem Inv.step {g':Array GenState} {t':Nat} {d':Drawn} {ch:List Addr} (I:Inv X pins σ H s)
  (hch:∀b∈ch,(b∈X.ex∨X.s₀.heap.objs.size≤b)∧b≠X.env.locals∧(∀x c,X.env.cells.lookup x=some c→c≠b)∧∀p∈X.pn++pins,p.1≠b)
  (keep:∀b o,b≠X.env.locals→b∉X.fs→b∉ch→s.heap.get? b=some o→H b=none→h'.get? b=some o)
  (slot:∀b o,b≠X.env.locals→b∈X.fs→b∉ch→s.heap.get? b=some o→H b=none→∃sl,h'.get? b=some {o with slots:=sl}) (free:∀b o,b∉ch→s.heap.get? b=some o→H b=none→H' b=none)
  (there:∀b o,b∉ch→s.heap.get? b=some o→∃o',h'.get? b=some o')
  (tups:∀b xs,H b=some (.tup xs)→H' b=some (.tup xs)) (frzs:∀b o u,H b=some (.frz o u)→H' b=some (.frz o u)) (tbls:∀b ps,H b=some (.tbl ps)→∃more,H' b=some (.tbl (ps++more)))
  (ns:∀m,s.heap.Ns X.env.locals m→h'.Ns X.env.locals m) (hok:HOk X.prog X.w H' h') (hg:AllBare g'):
  Inv X pins σ H' {s with heap:=h',gens:=g',drawn:=d',toks:=t'}:=by
 have neL:∀b o,X.s₀.heap.get? b=some o→b≠X.env.locals:=fun b o e=>Nat.ne_of_lt (Nat.lt_of_lt_of_le (Heap.lt_size e) I.ok.above)
 have neC:∀b o,X.s₀.heap.get? b=some o→b∉X.ex→b∉ch:=fun b o e hx hb=>by
  rcases (hch b hb).1 with z | z
  ·exact hx z
  ·exact absurd (Nat.lt_of_lt_of_le (Heap.lt_size e) z) (Nat.lt_irrefl _)
 have cellK:∀x c,X.env.cells.lookup x=some c→∀v,s.heap.IsCell c v→h'.IsCell c v:=fun x c e v ⟨o,ho,hd⟩=>by
  have nch:c∉ch:=fun z=>(hch c z).2.2.1 x c e rfl
  by_cases hc:c∈X.fs
  ·obtain ⟨sl,q⟩:=slot c o (I.cne x c e) hc nch ho (I.freeC x c e)
   exact ⟨_,q,hd⟩
  ·exact ⟨o,keep c o (I.cne x c e) hc nch ho (I.freeC x c e),hd⟩
 refine ⟨I.ok,I.os,hg,⟨fun b o e n hb hx=>?_,fun b o e n hb hx=>?_,fun b o e n hx=>?_,fun b o e hx=>?_,fun b xs e=>tups b xs (I.base.tups b xs e),fun b o xs e=>frzs b o xs (I.base.frzs b o xs e),fun b ps e=>?_⟩,?_,fun x c e=>?_,?_,fun x c e=>?_,fun p hp=>?_,hok,I.len⟩
 ·exact keep b o (neL b o e) hb (neC b o e hx) (I.base.keep b o e n hb hx) (I.base.free b o e n hx)
 ·obtain ⟨sl,e1⟩:=I.base.slot b o e n hb hx
  obtain ⟨sl',e2⟩:=slot b _ (neL b o e) hb (neC b o e hx) e1 (I.base.free b o e n hx)
  exact ⟨sl',e2⟩
 ·obtain ⟨o',e1⟩:=I.base.there b o e hx
  exact free b o' (neC b o e hx) e1 (I.base.free b o e n hx)
 ·obtain ⟨o',e1⟩:=I.base.there b o e hx
  exact there b o' (neC b o e hx) e1
 ·obtain ⟨m1,e1⟩:=I.base.tbls b ps e
  obtain ⟨m2,e2⟩:=tbls b _ e1
  exact ⟨m1++m2,by rw [e2,Array.append_assoc]⟩
 ·obtain ⟨m,hn,hl⟩:=I.loc
  refine ⟨m,ns m hn,fun i x v e1 e2 e3=>?_⟩
  obtain ⟨u,r,l⟩:=hl i x v e1 e2 e3
  refine ⟨u,r,?_⟩
  rcases l with l | ⟨k,c,e,z⟩
  ·exact .inl l
  ·exact .inr ⟨k,c,e,cellK x c e _ z⟩
 ·obtain ⟨v,z⟩:=I.cell x c e
  exact ⟨v,cellK x c e v z⟩
 ·obtain ⟨m,⟨o,_,_,ho,_⟩,_⟩:=I.loc
  exact free _ o (fun z=>(hch _ z).2.1 rfl) ho I.free
 ·obtain ⟨v,o,ho,hd⟩:=I.cell x c e
  exact free c o (fun z=>(hch c z).2.2.1 x c e rfl) ho (I.freeC x c e)
 ·obtain ⟨e,n,ne,nf,d⟩:=I.pin p hp
  have nch:p.1∉ch:=fun z=>(hch p.1 z).2.2.2 p hp rfl
  exact ⟨keep p.1 p.2 ne nf nch e n,free p.1 p.2 nch e n,ne,nf,d⟩
theorem Inv.un {t':Nat} (I:Inv X pins σ H s) (u:Un X.fs [] H H' s.heap h') (hok:HOk X.prog X.w H' h'):Inv X pins σ H' {s with heap:=h',toks:=t'}:=by
 obtain ⟨m,⟨o,es,ep,ho,r⟩,_⟩:=id I.loc
 obtain ⟨sl,hL⟩:=u.any ho I.free (by simp)
 exact I.step (g':=s.gens) (d':=s.drawn) (ch:=[]) (fun _ z=>nomatch z) (fun b o _ hb _ e n=>u.keep b o e n hb (by simp)) (fun b o _ hb _ e n=>u.slot b o e n hb (by simp)) (fun b o _ e n=>u.free b o e n (by simp)) (fun b o _ e=>u.there b o e (by simp)) u.tups u.frzs u.tbls (fun m' hm=>by
  obtain ⟨o',es',ep',ho',r'⟩:=hm
  rw [ho] at ho';cases ho'
  exact ⟨_,es',ep',hL,r'⟩) hok I.bare
theorem Inv.call {g':Array GenState} {t':Nat} {d':Drawn} {ch:List Addr} (I:Inv X pins σ H s) (u:Un (frs X.stack) ch H H' s.heap h') (hok:HOk X.prog X.w H' h') (hg:AllBare g')
  (hch:∀b∈ch,(b∈X.ex∨X.s₀.heap.objs.size≤b)∧b≠X.env.locals∧(∀x c,X.env.cells.lookup x=some c→c≠b)∧∀p∈X.pn++pins,p.1≠b):
  Inv X pins σ H' {s with heap:=h',gens:=g',drawn:=d',toks:=t'}:=by
 obtain ⟨m,⟨o,es,ep,ho,r⟩,_⟩:=id I.loc
 obtain ⟨sl,hL⟩:=u.any ho I.free fun z=>(hch _ z).2.1 rfl
 exact I.step (ch:=ch) hch (fun b o hL hb hc e n=>u.keep b o e n (fun z=>(List.mem_cons.mp (I.i9 b z)).elim hL hb) hc) (fun b o _ _ hc e n=>u.any e n hc) (fun b o hc e n=>u.free b o e n hc) (fun b o hc e=>u.there b o e hc) u.tups u.frzs u.tbls (fun m' hm=>by
  obtain ⟨o',es',ep',ho',r'⟩:=hm
  rw [ho] at ho';cases ho'
  exact ⟨_,es',ep',hL,r'⟩) hok hg
theorem Inv.turned {t':Nat} {it:Addr} (I:Inv X pins σ H s) (k:∀b o,b≠it→s.heap.get? b=some o→h'.get? b=some o) (hn:H it=none) (hL:it≠X.env.locals)
  (h1:it∈X.ex∨X.s₀.heap.objs.size≤it) (h2:∀x c,X.env.cells.lookup x=some c→c≠it) (h3:∀p∈X.pn++pins,p.1≠it):Inv X pins σ H {s with heap:=h',toks:=t'}:=by
 have nit:∀b u,H b=some u→b≠it:=fun b u e z=>by rw [z,hn] at e;cases e
 refine I.step (g':=s.gens) (d':=s.drawn) (ch:=[it]) (fun b hb=>?_) (fun b o _ _ hc e _=>k b o (fun z=>hc (by simp [z])) e) (fun b o _ _ hc e _=>⟨o.slots,k b o (fun z=>hc (by simp [z])) e⟩) (fun _ _ _ _ n=>n)
  (fun b o hc e=>⟨o,k b o (fun z=>hc (by simp [z])) e⟩) (fun _ _ e=>e) (fun _ _ _ e=>e) (fun b ps e=>⟨#[],by rw [e];simp⟩) (fun m hm=>?_) (fun b u e=>?_) I.bare
 ·have e:b=it:=by simpa using hb
  subst e
  exact ⟨h1,hL,h2,h3⟩
 ·obtain ⟨o,es,ep,ho,r⟩:=hm
  exact ⟨o,es,ep,k _ o (Ne.symm hL) ho,r⟩
 ·refine (I.hok b u e).nD (fun c v hc q=>k c v ?_ q) (fun _ q=>q) fun _ _ q=>q
  rcases hc with z | z
  ·rw [z];exact nit b u e
  ·exact nit c _ z
theorem Inv.tok (I:Inv X pins σ H s) (t:Nat):Inv X pins σ H {s with toks:=t}:=I.un (h':=s.heap) (t':=t) Un.refl I.hok
theorem Inv.kept {t':Nat} (I:Inv X pins σ H s) (k:∀b u,s.heap.get? b=some u→h'.get? b=some u):Inv X pins σ H {s with heap:=h',toks:=t'}:=I.un (Un.kept k) (I.hok.kept k)
theorem Inv.laid {a:Addr} {o:HO} {t':Nat} (I:Inv X pins σ H s) (k:∀b u,s.heap.get? b=some u→h'.get? b=some u) (hp:s.heap.objs.size≤a) (new:bZ X.prog X.w (upd H a o) h' a o):
  Inv X pins σ (upd H a o) {s with heap:=h',toks:=t'}:=I.un (Un.laid k hp (I.hok.fresh hp)) (I.hok.laid k hp new)
theorem Inv.write {x e:Addr} {o:HO} {t':Nat} (I:Inv X pins σ H s) (mu:Mut (H x)) (he:e=x∨H e=some (.own x)) (k:∀b u,b≠e→s.heap.get? b=some u→h'.get? b=some u) (heo:∃u,h'.get? e=some u)
  (new:bZ X.prog X.w (upd H x o) h' x o):Inv X pins σ (upd H x o) {s with heap:=h',toks:=t'}:=I.un (Un.write mu he k heo) (I.hok.write mu he k heo new)
theorem Inv.pQ {pins':List (Addr×Obj)} (I:Inv X pins σ H s) (h:∀p∈pins',s.heap.get? p.1=some p.2∧H p.1=none∧p.1≠X.env.locals∧p.1∉X.fs∧∀v,p.2.data≠.cell v):Inv X pins' σ H s:=
 ⟨I.ok,I.os,I.bare,I.base,I.loc,I.cell,I.free,I.freeC,fun p hp=>(List.mem_append.mp hp).elim (fun z=>I.pin p (List.mem_append_left _ z)) (h p),I.hok,I.len⟩
theorem nS {N:List Str} (hN:N.Nodup) {i j:Nat} {x:Str} (a:N[i]?=some x) (b:N[j]?=some x):i=j:=by
 obtain ⟨h1,e1⟩:=List.getElem?_eq_some_iff.mp a
 obtain ⟨h2,e2⟩:=List.getElem?_eq_some_iff.mp b
 exact (List.getElem_inj hN).mp (e1.trans e2.symm)
theorem kC {M:Model} {A:Around} {E:Value→Shared→Prop} {i:Nat} {x:Str} {v:V} {u:Value} {Q:Unit→Shared→Prop} (I:Inv X pins σ H s) (hN:X.N.Nodup) (hi:X.N[i]?=some x) (hx:Loc X.env.scope x) (r:RelV v u)
  (h:∀s',Inv X pins (σ.set i (some v)) H s'→(∃a,Heap.SameBut a s.heap s'.heap∧(a=X.env.locals∨X.env.cells.lookup x=some a))→Q () s') (hf:X.fn x=true∨X.env.scope.names.lookup x=some .local:=by first | exact .inl rfl | exact .inr rfl | assumption):wpAny M A (storeName X.env x u) Q E s:=by
 obtain ⟨m,hn,hl⟩:=id I.loc
 have hcls:(X.env.scope.kind==.class||(X.env.scope.kind==.module&&X.env.locals !=X.env.globals))=false:=by rw [I.ok.kind];rfl
 have hiσ:i < σ.length:=by rw [I.len];exact (List.getElem?_eq_some_iff.mp hi).1
 have cne:=I.cne
 have tracked:∀{a:Addr} {h':Heap},(∃o,s.heap.get? a=some o∧H a=none)→Heap.SameBut a s.heap h'→HOk X.prog X.w H h':=fun {a h'} ha hs b ob e=>by
  obtain ⟨_,_,hfree⟩:=ha
  refine (I.hok b ob e).nD (fun c w' hc q=>(hs.2 c ?_).trans q) (fun _ q=>q) fun _ _ q=>q
  rintro rfl
  rcases hc with rfl | hc
  ·rw [hfree] at e;cases e
  ·rw [hfree] at hc;cases hc
 rcases hx with hk | hk
 ·refine wpAny_storeName_local hk hn (fun h' hn' hs=>?_) hcls
  obtain ⟨oL,_,_,hoL,_⟩:=id hn
  refine h _ ⟨I.ok,I.os,I.bare,⟨fun b o e n hb hx=>?_,fun b o e n hb hx=>?_,I.base.free,fun b o e hx=>?_,I.base.tups,I.base.frzs,I.base.tbls⟩,⟨_,hn',fun j y v' e1 e2 e3=>?_⟩,fun y c e=>?_,I.free,I.freeC,fun p hp=>?_,tracked ⟨oL,hoL,I.free⟩ hs,by simpa using I.len⟩ ⟨_,hs,.inl rfl⟩
  ·exact (hs.2 b (Nat.ne_of_lt (Nat.lt_of_lt_of_le (Heap.lt_size e) I.ok.above))).trans (I.base.keep b o e n hb hx)
  ·obtain ⟨sl,e1⟩:=I.base.slot b o e n hb hx
   exact ⟨sl,(hs.2 b (Nat.ne_of_lt (Nat.lt_of_lt_of_le (Heap.lt_size e) I.ok.above))).trans e1⟩
  ·obtain ⟨o',e1⟩:=I.base.there b o e hx
   exact ⟨o',(hs.2 b (Nat.ne_of_lt (Nat.lt_of_lt_of_le (Heap.lt_size e) I.ok.above))).trans e1⟩
  ·by_cases hj:j=i
   ·subst hj
    rw [hi] at e1;cases e1
    rw [List.getElem?_set_self hiσ] at e2
    cases e2
    exact ⟨u,r,.inl ⟨hk,by simp⟩⟩
   ·rw [List.getElem?_set_ne (Ne.symm hj)] at e2
    obtain ⟨u',r',q⟩:=hl j y v' e1 e2 e3
    refine ⟨u',r',?_⟩
    rcases q with ⟨k,e⟩ | ⟨k,c,e,z⟩
    ·refine .inl ⟨k,?_⟩
     have:y≠x:=fun e=>hj (nS hN e1 (e ▸ hi))
     simp [this,e]
    ·exact .inr ⟨k,c,e,z.sameBut hs (cne y c e)⟩
  ·obtain ⟨w',z⟩:=I.cell y c e
   exact ⟨w',z.sameBut hs (cne y c e)⟩
  ·obtain ⟨e,n,ne,nf,d⟩:=I.pin p hp
   exact ⟨(hs.2 p.1 ne).trans e,n,ne,nf,d⟩
 ·have hfn:X.fn x=true:=by
   rcases hf with z | z
   ·exact z
   ·rw [z] at hk;cases hk
  obtain ⟨c,hc⟩:=I.ok.has x (.inl hk)
  obtain ⟨w',z⟩:=I.cell x c hc
  refine wpAny_storeName_cell I.ok.kind hk hc z (fun h' hc' hs=>?_)
  obtain ⟨oc,hoc,hocd⟩:=id z
  refine h {s with heap:=h'} ⟨I.ok,I.os,I.bare,⟨fun b o e n hb hx=>?_,fun b o e n hb hx=>?_,I.base.free,fun b o e hx=>?_,I.base.tups,I.base.frzs,I.base.tbls⟩,⟨m,hn.sameBut hs (Ne.symm (cne x c hc)),fun j y v' e1 e2 e3=>?_⟩,fun y c' e=>?_,I.free,I.freeC,fun p hp=>?_,tracked ⟨oc,hoc,I.freeC x c hc⟩ hs,by simpa using I.len⟩ ⟨c,hs,.inr hc⟩
  ·exact (hs.2 b (Nat.ne_of_lt (Nat.lt_of_lt_of_le (Heap.lt_size e) (I.ok.cab x c hfn hc)))).trans (I.base.keep b o e n hb hx)
  ·obtain ⟨sl,e1⟩:=I.base.slot b o e n hb hx
   exact ⟨sl,(hs.2 b (Nat.ne_of_lt (Nat.lt_of_lt_of_le (Heap.lt_size e) (I.ok.cab x c hfn hc)))).trans e1⟩
  ·obtain ⟨o',e1⟩:=I.base.there b o e hx
   exact ⟨o',(hs.2 b (Nat.ne_of_lt (Nat.lt_of_lt_of_le (Heap.lt_size e) (I.ok.cab x c hfn hc)))).trans e1⟩
  ·by_cases hj:j=i
   ·subst hj
    rw [hi] at e1;cases e1
    rw [List.getElem?_set_self hiσ] at e2
    cases e2
    exact ⟨u,r,.inr ⟨.inl hk,c,hc,hc'⟩⟩
   ·rw [List.getElem?_set_ne (Ne.symm hj)] at e2
    obtain ⟨u',r',q⟩:=hl j y v' e1 e2 e3
    refine ⟨u',r',?_⟩
    rcases q with q | ⟨k,c',e,z'⟩
    ·exact .inl q
    ·refine .inr ⟨k,c',e,z'.sameBut hs ?_⟩
     rintro rfl
     exact hj (nS hN e1 (I.ok.inj _ _ _ e hc ▸ hi))
  ·by_cases hcc:c'=c
   ·subst hcc;exact ⟨_,hc'⟩
   ·obtain ⟨w2,z2⟩:=I.cell y c' e
    exact ⟨w2,z2.sameBut hs hcc⟩
  ·obtain ⟨e,n,ne,nf,d⟩:=I.pin p hp
   refine ⟨(hs.2 p.1 ?_).trans e,n,ne,nf,d⟩
   intro q
   rw [q,hoc] at e
   have q':oc=p.2:=Option.some.inj e
   exact d w' (by rw [←q'];exact hocd)
theorem gA {M:Model} {A:Around} {E:Value→Shared→Prop} {i:Nat} {x:Str} {v:V} {u:Value} {Q:Unit→Shared→Prop} (I:Inv X pins σ H s) (hN:X.N.Nodup) (hi:X.N[i]?=some x) (hx:Loc X.env.scope x) (r:RelV v u)
  (h:∀s',Inv X pins (σ.set i (some v)) H s'→Q () s') (hf:X.fn x=true∨X.env.scope.names.lookup x=some .local:=by first | exact .inl rfl | exact .inr rfl | assumption):wpAny M A (storeName X.env x u) Q E s:=
 kC I hN hi hx r (fun s' I' _=>h s' I') hf
theorem Inv.call' {s':Shared} {ch:List Addr} (I:Inv X pins σ H s) (ho:s'.os=s.os) (u:Un (frs X.stack) ch H H' s.heap s'.heap) (hok:HOk X.prog X.w H' s'.heap) (hg:AllBare s'.gens)
  (hch:∀b∈ch,(b∈X.ex∨X.s₀.heap.objs.size≤b)∧b≠X.env.locals∧(∀x c,X.env.cells.lookup x=some c→c≠b)∧∀p∈X.pn++pins,p.1≠b):Inv X pins σ H' s':=by
 obtain ⟨h',g',d',t',o'⟩:=s'
 have e:o'=s.os:=ho
 subst e
 exact I.call (g':=g') (t':=t') (d':=d') u hok hg hch
end
abbrev XK:=Value→Option Addr→Hp→Prop
abbrev St:=List (Option V)
abbrev VK:=V→Hp→Prop
abbrev TE:=St→Hp→VK→Prop
abbrev TT:=St→Hp→(Bool→Hp→Prop)→Prop
abbrev TA:=St→Hp→(List V→Hp→Prop)→Prop
structure Ends where
 nx:St→Hp→Prop
 rt:VK
 bk:St→Hp→Prop:=fun _ _=>False
 ct:St→Hp→Prop:=fun _ _=>False
abbrev TS:=Ends→St→Hp→Prop
inductive EPi (X:Cx) (pins:List (Addr×Obj)) (σ:St) (Q:VK) (u:Value) (s':Shared):Prop where
 | mk (v H'):Inv X pins σ H' s'→RelV v u→Q v H'→EPi X pins σ Q u s'
def EP (X:Cx) (pins:List (Addr×Obj)) (σ:St) (Q:VK) (u:Value) (s':Shared):Prop:=EPi X pins σ Q u s'
def TP (X:Cx) (pins:List (Addr×Obj)) (σ:St) (Q:Bool→Hp→Prop) (b:Bool) (s':Shared):Prop:=∃H',Inv X pins σ H' s'∧Q b H'
inductive APi (X:Cx) (pins:List (Addr×Obj)) (σ:St) (Q:List V→Hp→Prop) (us:List Value) (s':Shared):Prop where
 | mk (vs H'):Inv X pins σ H' s'→Vals vs us→Q vs H'→APi X pins σ Q us s'
def AP (X:Cx) (pins:List (Addr×Obj)) (σ:St) (Q:List V→Hp→Prop) (us:List Value) (s':Shared):Prop:=APi X pins σ Q us s'
def SP (X:Cx) (pins:List (Addr×Obj)) (D:Ends) (f:Flow) (s':Shared):Prop:=
 match f with
 | .next=>∃σ' H',Inv X pins σ' H' s'∧D.nx σ' H'
 | .brk=>∃σ' H',Inv X pins σ' H' s'∧D.bk σ' H'
 | .cont=>∃σ' H',Inv X pins σ' H' s'∧D.ct σ' H'
 | .ret u=>∃v σ' H',Inv X pins σ' H' s'∧RelV v u∧D.rt v H'
def PE (X:Cx) (e:Expr) (t:TE):Prop:=
 ∀(pins:List (Addr×Obj)) (s:Shared) (σ:St) (H:Hp) (Q:VK),Inv X pins σ H s→t σ H Q→wpAny (model X.prog X.w) X.A (eval e X.env) (EP X pins σ Q) X.xe s
def PT (X:Cx) (e:Expr) (t:TT):Prop:=
 ∀(pins:List (Addr×Obj)) (s:Shared) (σ:St) (H:Hp) (Q:Bool→Hp→Prop),Inv X pins σ H s→t σ H Q→wpAny (model X.prog X.w) X.A (isTrue e X.env (eval e X.env)) (TP X pins σ Q) X.xe s
def PW (X:Cx) (e:Expr) (t:TT):Prop:=
 ∀(whole:Sem Value) (pins:List (Addr×Obj)) (s:Shared) (σ:St) (H:Hp) (Q:Bool→Hp→Prop),Inv X pins σ H s→t σ H Q→wpAny (model X.prog X.w) X.A (isTrue e X.env whole) (TP X pins σ Q) X.xe s
theorem PW.pt {X:Cx} {e:Expr} {t:TT} (h:PW X e t):PT X e t:=h _
def PA (X:Cx) (es:List Expr) (t:TA):Prop:=
 ∀(pos:Pos) (pins:List (Addr×Obj)) (s:Shared) (σ:St) (H:Hp) (Q:List V→Hp→Prop),Inv X pins σ H s→t σ H Q→wpAny (model X.prog X.w) X.A (spliced (backTo pos (starEach es X.env))) (AP X pins σ Q) X.xe s
def PS (X:Cx) (st:Stmt) (t:TS):Prop:=
 ∀(pins:List (Addr×Obj)) (s:Shared) (σ:St) (H:Hp) (D:Ends),Inv X pins σ H s→t D σ H→wpAny (model X.prog X.w) X.A (exec st X.env) (SP X pins D) X.xe s
def PSs (X:Cx) (st:List Stmt) (t:TS):Prop:=
 ∀(pins:List (Addr×Obj)) (s:Shared) (σ:St) (H:Hp) (D:Ends),Inv X pins σ H s→t D σ H→wpAny (model X.prog X.w) X.A (execs st X.env) (SP X pins D) X.xe s
theorem thn {α:Type} {t:Sem α} {Q Q':α→Shared→Prop} {M:Model} {A:Around} {E:Value→Shared→Prop} {s:Shared} (h:wpAny M A t Q E s) (hQ:∀a s,Q a s→Q' a s):wpAny M A t Q' E s:=wpAny_mono h hQ fun _ _ x=>x
end L2
namespace L2
open PySem PySem.Spec PyProof.Rows
section
variable {X:Cx}
def zk (i:Nat):TE:=fun σ H Q=>∃v,σ[i]?=some (some v)∧Q v H
def tC (v:V):TE:=fun _ H Q=>Q v H
theorem wM {i:Nat} {x:Str} {pos:Pos} (hN:X.N[i]?=some x) (hv:Vis X.env.scope x) (hd:(x==("__debug__":Str))=false:=by decide) (hcd:(x==("__classdict__":Str))=false:=by decide):PE X (.Name x pos) (zk i):=by
 intro pins s σ H Q I h
 obtain ⟨v,e,h⟩:=h
 obtain ⟨m,hn,hl⟩:=I.loc
 obtain ⟨u,r,l⟩:=hl i x v hN e hv
 have fin:EP X pins σ Q u s:=⟨v,H,I,r,h⟩
 rcases l with ⟨hk,hm⟩ | ⟨hk,c,hc,hcell⟩
 ·exact wpAny_Name (wpAny_loadName_local I.ok.kind hk hn hm fin) hd
 ·rcases hk with hk | hk
  ·exact wpAny_Name (wpAny_loadName_cell I.ok.kind hk hc hcell fin) hd
  ·exact wpAny_Name (wpAny_loadName_free I.ok.kind hk hc hcell fin hcd) hd
theorem wX {i j pos}:PE X (.Constant (.int i) j pos) (tC (.int i)):=fun _ _ _ H _ I h=>wpAny_Constant_int ⟨.int i,H,I.tok _,⟨_,rfl⟩,h⟩
theorem yS {b j pos}:PE X (.Constant (.bool b) j pos) (tC (.bl b)):=fun _ _ _ H _ I h=>Constant_bool ⟨.bl b,H,I,rfl,h⟩
theorem wV {j pos}:PE X (.Constant .none j pos) (tC .non):=fun _ _ _ H _ I h=>Constant_none ⟨.non,H,I,rfl,h⟩
theorem wQ {x j pos}:PE X (.Constant (.str x) j pos) (tC (.str x)):=fun _ _ _ H _ I h=>Calls.Constant_str ⟨.str x,H,I.tok _,⟨_,rfl⟩,h⟩
def Gl (X:Cx) (x:Str):Prop:=X.env.kindOf x=some .globalImplicit
theorem pU {E:Value→Shared→Prop} {pins:List (Addr×Obj)} {s:Shared} {σ:St} {H:Hp} {x:Str} {u:Value} {pos:Pos} {Q:Value→Shared→Prop} (I:Inv X pins σ H s) (hg:Gl X x) (hm:X.mg x=some u) (h:Q u s)
  (hd:(x==("__debug__":Str))=false:=by decide):wpAny (model X.prog X.w) X.A (eval (.Name x pos) X.env) Q E s:=
 Calls.Name_function_global I.ok.kind hg (Calls.loadGlobal_global (by rw [I.ok.glob];exact I.mod.glob.keeps I.bk) hm h) hd
theorem fI {E:Value→Shared→Prop} {pins:List (Addr×Obj)} {s:Shared} {σ:St} {H:Hp} {x:Str} {u:Value} {pos:Pos} {Q:Value→Shared→Prop} (I:Inv X pins σ H s) (hg:Gl X x) (hm:X.mg x=none) (hv:bootBuiltins x=some u) (h:Q u s)
  (hn:x≠"__name__":=by decide) (hd:(x==("__debug__":Str))=false:=by decide):wpAny (model X.prog X.w) X.A (eval (.Name x pos) X.env) Q E s:=by
 obtain ⟨mb,h1,h2⟩:=I.mod.blt
 exact Calls.Name_function_global I.ok.kind hg (Calls.loadGlobal_builtin (by rw [I.ok.glob];exact I.mod.glob.keeps I.bk) hm (by rw [I.ok.blt];exact h1.keeps I.bk) ((h2 x hn).trans hv) h) hd
theorem uT {x:Str} {v:V} {u:Value} {pos:Pos} (hg:Gl X x) (hm:X.mg x=none) (hv:bootBuiltins x=some u) (r:RelV v u) (hn:x≠"__name__":=by decide) (hd:(x==("__debug__":Str))=false:=by decide):PE X (.Name x pos) (tC v):=
 fun _ _ _ H _ I h=>fI I hg hm hv ⟨v,H,I,r,h⟩ hn hd
variable {a b:Expr} {ta tb:TE} {pos:Pos}
variable {tA tB':TT} {rest:List Expr}
def iJ (t u:TT):TT:=fun σ H Q=>t σ H fun c H1=>if c=true then u σ H1 Q else Q false H1
def tOr (t u:TT):TT:=fun σ H Q=>t σ H fun c H1=>if c=true then Q true H1 else u σ H1 Q
def oC (t:TT):TT:=fun σ H Q=>t σ H fun c H1=>Q (!c) H1
theorem uC (ha:PT X a tA):PW X (.BoolOp .And [a] pos) tA:=by
 intro wh pins s σ H Q I h
 refine isTrue_and (thn (ha pins s σ H Q I h) fun c s1 e=>?_)
 cases c with
 | true=>exact isTrue_and_nil e
 | false=>exact e
theorem wA (ha:PT X a tA):PW X (.BoolOp .Or [a] pos) tA:=by
 intro wh pins s σ H Q I h
 refine isTrue_or (thn (ha pins s σ H Q I h) fun c s1 e=>?_)
 cases c with
 | false=>exact isTrue_or_nil e
 | true=>exact e
theorem wB (ha:PT X a tA) (hb:PW X (.BoolOp .And (b::rest) pos) tB'):PW X (.BoolOp .And (a::b::rest) pos) (iJ tA tB'):=by
 intro wh pins s σ H Q I h
 refine isTrue_and (thn (ha pins s σ H _ I h) fun c s1 ⟨H1,I1,q1⟩=>?_)
 cases c with
 | true=>exact hb wh pins s1 σ H1 Q I1 q1
 | false=>exact ⟨H1,I1,q1⟩
theorem yN (ha:PT X a tA) (hb:PW X (.BoolOp .Or (b::rest) pos) tB'):PW X (.BoolOp .Or (a::b::rest) pos) (tOr tA tB'):=by
 intro wh pins s σ H Q I h
 refine isTrue_or (thn (ha pins s σ H _ I h) fun c s1 ⟨H1,I1,q1⟩=>?_)
 cases c with
 | true=>exact ⟨H1,I1,q1⟩
 | false=>exact hb wh pins s1 σ H1 Q I1 q1
theorem wC (ha:PT X a tA):PT X (.UnaryOp .Not a pos) (oC tA):=by
 intro pins s σ H Q I h
 exact isTrue_not (ha pins s σ H (fun c H1=>Q (!c) H1) I h)
def yq (ta tb:TE):TE:=fun σ H Q=>ta σ H fun x H1=>∃c,x=.bl c∧if c=true then tb σ H1 Q else Q (.bl false) H1
def yk (ta:TE):TE:=fun σ H Q=>ta σ H fun x H1=>∃c,x=.bl c∧Q (.bl (!c)) H1
theorem wR {op} {t:TE} (h:PE X a t):PE X (.BoolOp op [a] pos) t:=fun pins s σ H Q I hw=>BoolOp_one (h pins s σ H Q I hw)
theorem wZ (ha:PE X a ta) (hb:PE X (.BoolOp .And (b::rest) pos) tb):PE X (.BoolOp .And (a::b::rest) pos) (yq ta tb):=by
 intro pins s σ H Q I h
 refine BoolOp_and (thn (ha pins s σ H _ I h) fun v s1 ⟨x,H1,I1,r1,q1⟩=>?_)
 obtain ⟨c,rfl,q1⟩:=q1
 cases r1
 refine wpAny_truthy_bool ?_
 cases c with
 | true=>exact hb pins s1 σ H1 Q I1 q1
 | false=>exact ⟨.bl false,H1,I1,rfl,q1⟩
theorem wU (ha:PE X a ta):PE X (.UnaryOp .Not a pos) (yk ta):=by
 intro pins s σ H Q I h
 refine UnaryOp_ (thn (ha pins s σ H _ I h) fun v s1 ⟨x,H1,I1,r1,q1⟩=>?_)
 obtain ⟨c,rfl,q1⟩:=q1
 cases r1
 exact not_of (wpAny_truthy_bool ⟨.bl (!c),H1,I1,rfl,q1⟩)
end
end L2
namespace L2
open PySem PySem.Spec PyProof.Rows
def SqL (K:PySem.W.Frag) (H:Hp) (a:Addr) (xs:List V):Prop:=
 Rd H a (.lst xs)∨
  ∃(o:Obj) (its:Array Value) (n:Nat),K.lookup a=some o∧o.cls=.type "list"∧o.dict=none∧o.data=.seq its n∧its.size≤sizeLine∧Vals xs its.toList
def SqT (K:PySem.W.Frag) (H:Hp) (a:Addr) (xs:List V):Prop:=
 Rd H a (.tup xs)∨
  ∃(o:Obj) (its:Array Value) (n:Nat),K.lookup a=some o∧o.cls=.type "tuple"∧o.data=.seq its n∧its.size≤sizeLine∧Vals xs its.toList∧o.dict=none
def Ai:Value→Option V
 | .none=>some .non
 | .bool b=>some (.bl b)
 | .int i _=>some (.int i)
 | .str x _=>some (.str x)
 | .bytes b _=>some (.byt b)
 | .float b _=>some (.flt b)
 | .ref a=>some (.ref a)
 | .type n=>some (.ty n)
 | _=>none
theorem RelV.abs {x:V} {u:Value} (r:RelV x u):Ai u=some x:=by
 cases x with
 | non=>cases r;rfl
 | bl _=>cases r;rfl
 | int _=>obtain ⟨t,rfl⟩:=r;rfl
 | str _=>obtain ⟨t,rfl⟩:=r;rfl
 | byt _=>obtain ⟨t,rfl⟩:=r;rfl
 | flt _=>obtain ⟨t,rfl⟩:=r;rfl
 | ref _=>cases r;rfl
 | ty _=>cases r;rfl
theorem RelV.inj {x y:V} {u:Value} (r:RelV x u) (q:RelV y u):x=y:=Option.some.inj (r.abs.symm.trans q.abs)
theorem Vals.inj:∀{xs ys:List V} {us:List Value},Vals xs us→Vals ys us→xs=ys
 | _,_,_,.nil,.nil=>rfl
 | _,_,_,.cons r t,.cons r' t'=>by rw [r.inj r',Vals.inj t t']
section
variable {X:Cx} {pins:List (Addr×Obj)} {σ:St} {H:Hp} {s:Shared} {a:Addr} {xs ys:List V}
theorem SqL.of {K:PySem.W.Frag} (h:H a=some (.lst xs)):SqL K H a xs:=.inl (.inl h)
theorem Inv.list (I:Inv X pins σ H s) (h:SqL X.K H a xs):∃its:List Value,Vals xs its∧PlainL s.heap a its.toArray∧xs.length≤sizeLine:=by
 rcases h with h | ⟨o,its,n,hk,hc,hd,hs,hz,r⟩
 ·obtain ⟨z,its,n,r,e⟩:=h.ok I.hok
  exact ⟨its,r,⟨_,n,e,rfl,rfl,rfl⟩,z⟩
 ·refine ⟨its.toList,r,⟨o,n,I.kIn a o hk,hc,hd,by simpa using hs⟩,?_⟩
  have e:=r.length
  simp only [Array.length_toList] at e
  omega
theorem Inv.tuple (I:Inv X pins σ H s) (h:SqT X.K H a xs):∃its:List Value,Vals xs its∧IsTup s.heap a its.toArray∧xs.length≤sizeLine:=by
 rcases h with h | ⟨o,its,n,hk,hc,hs,hz,r,_⟩
 ·obtain ⟨z,its,r,p⟩:=h.ok I.hok
  exact ⟨its,r,p.tup,z⟩
 ·refine ⟨its.toList,r,⟨o,I.kIn a o hk,hc,n,by simpa using hs⟩,?_⟩
  have e:=r.length
  simp only [Array.length_toList] at e
  omega
theorem Inv.nX (I:Inv X pins σ H s) (h:SqL X.K H a xs) (h':SqL X.K H a ys):xs=ys:=by
 obtain ⟨its,r,⟨o,n,e,_,_,d⟩,_⟩:=I.list h
 obtain ⟨its',r',⟨o',n',e',_,_,d'⟩,_⟩:=I.list h'
 rw [e] at e';cases e'
 rw [d] at d'
 injection d' with d1 _
 have:its=its':=by simpa using congrArg Array.toList d1
 subst this
 exact r.inj r'
theorem Inv.ku (I:Inv X pins σ H s) (h:SqT X.K H a xs) (h':SqT X.K H a ys):xs=ys:=by
 obtain ⟨its,r,⟨o,e,_,n,d⟩,_⟩:=I.tuple h
 obtain ⟨its',r',⟨o',e',_,n',d'⟩,_⟩:=I.tuple h'
 rw [e] at e';cases e'
 rw [d] at d'
 injection d' with d1 _
 have:its=its':=by simpa using congrArg Array.toList d1
 subst this
 exact r.inj r'
end
abbrev Cx.jS (X:Cx) (E:Value→Shared→Prop):Cx:={X with xe:=E}
abbrev Cx.nox (X:Cx):Cx:=X.jS fun _ _=>False
theorem Cx.Ok.jS {X:Cx} (ok:X.Ok) (E:Value→Shared→Prop):(X.jS E).Ok:=
 ⟨ok.mod,ok.kind,ok.glob,ok.blt,ok.above,ok.inj,ok.has,ok.cab,ok.hd,ok.frames,ok.stk,ok.exf,ok.bs,ok.bsz,ok.noex,ok.exfs,ok.jA,ok.frf⟩
theorem Cx.Ok.fq {X:Cx} {E:Value→Shared→Prop} (ok:(X.jS E).Ok):X.Ok:=
 ⟨ok.mod,ok.kind,ok.glob,ok.blt,ok.above,ok.inj,ok.has,ok.cab,ok.hd,ok.frames,ok.stk,ok.exf,ok.bs,ok.bsz,ok.noex,ok.exfs,ok.jA,ok.frf⟩
section
variable {X:Cx} {pins:List (Addr×Obj)} {σ:St} {H:Hp} {s:Shared} {E:Value→Shared→Prop}
theorem Inv.jS (I:Inv X pins σ H s) (E:Value→Shared→Prop):Inv (X.jS E) pins σ H s:=⟨I.ok.jS E,I.os,I.bare,I.base,I.loc,I.cell,I.free,I.freeC,I.pin,I.hok,I.len⟩
theorem Inv.fq (I:Inv (X.jS E) pins σ H s):Inv X pins σ H s:=⟨I.ok.fq,I.os,I.bare,I.base,I.loc,I.cell,I.free,I.freeC,I.pin,I.hok,I.len⟩
theorem SP.fq {D:Ends} {f:Flow} {s':Shared} (h:SP (X.jS E) pins D f s'):SP X pins D f s':=by
 cases f with
 | next=>obtain ⟨σ',H',I,q⟩:=h;exact ⟨σ',H',I.fq,q⟩
 | brk=>obtain ⟨σ',H',I,q⟩:=h;exact ⟨σ',H',I.fq,q⟩
 | cont=>obtain ⟨σ',H',I,q⟩:=h;exact ⟨σ',H',I.fq,q⟩
 | ret u=>obtain ⟨v,σ',H',I,r,q⟩:=h;exact ⟨v,σ',H',I.fq,r,q⟩
theorem PSs.nox {st:List Stmt} {t:TS} (h:PSs X.nox st t):PSs X st t:=fun pins s σ H D I hw=>
 wpAny_mono (h pins s σ H D (I.jS _) hw) (fun _ _ q=>q.fq) fun _ _ z=>False.elim z
end
section
variable {X:Cx} {st:Stmt} {rest:List Stmt} {t u:TS} {e:Expr} {te:TE} {pos:Pos}
def yl:TS:=fun D σ H=>D.nx σ H
def yg (t u:TS):TS:=fun D σ H=>t {D with nx:=u D} σ H
theorem uF:PSs X [] yl:=fun _ _ σ H _ I h=>wpAny_execs_nil ⟨σ,H,I,h⟩
theorem sh (h1:PS X st t) (h2:PSs X rest u):PSs X (st::rest) (yg t u):=by
 intro pins s σ H D I h
 refine wpAny_execs_cons (thn (h1 pins s σ H {D with nx:=u D} I h) fun f s1 q=>?_)
 cases f with
 | next=>
  obtain ⟨σ',H',I',q⟩:=q
  exact h2 pins s1 σ' H' D I' q
 | ret v=>exact q
 | brk=>exact q
 | cont=>exact q
theorem uE (h1:PS X st t):PSs X [st] t:=by
 intro pins s σ H D I h
 refine wpAny_execs_cons (thn (h1 pins s σ H D I h) fun f s1 q=>?_)
 cases f with
 | next=>exact wpAny_execs_nil q
 | ret v=>exact q
 | brk=>exact q
 | cont=>exact q
theorem Inv.quiet {pins:List (Addr×Obj)} {σ:St} {H:Hp} {s:Shared} (I:Inv X pins σ H s):interactive X.env=false:=by simp [interactive,I.ok.kind]
def yn (te:TE):TS:=fun D σ H=>te σ H fun _ H1=>D.nx σ H1
theorem uH (he:PE X e te) (hs:swapsWith e none pos.line X.env=pure false:=by rfl):PS X (.Expr e pos) (yn te):=by
 intro pins s σ H D I h
 exact wpAny_Expr_any (thn (he pins s σ H _ I h) fun v s1 ⟨x,H1,I1,r1,q1⟩=>⟨σ,H1,I1,q1⟩) I.quiet hs
def zm (te:TE):TS:=fun D σ H=>te σ H D.rt
theorem wF (he:PE X e te):PS X (.Return (some e) pos) (zm te):=by
 intro pins s σ H D I h
 exact wpAny_Return_some (thn (he pins s σ H _ I h) fun v s1 ⟨x,H1,I1,r1,q1⟩=>⟨x,σ,H1,I1,r1,q1⟩)
def zr (c:TT) (t u:TS):TS:=fun D σ H=>c σ H fun b H1=>if b=true then t D σ H1 else u D σ H1
theorem yO {c:Expr} {a b:List Stmt} {tc:TT} (hc:PT X c tc) (ha:PSs X a t) (hb:PSs X b u):PS X (.If c a b pos) (zr tc t u):=by
 intro pins s σ H D I h
 refine wpAny_If (thn (hc pins s σ H _ I h) fun d s1 ⟨H1,I1,q1⟩=>?_)
 cases d with
 | true=>exact ha pins s1 σ H1 D I1 q1
 | false=>exact hb pins s1 σ H1 D I1 q1
end
abbrev TG:=V→St→Hp→(St→Hp→Prop)→Prop
abbrev TGs:=List V→St→Hp→(St→Hp→Prop)→Prop
def PG (X:Cx) (target:Expr) (t:TG):Prop:=
 ∀(pins:List (Addr×Obj)) (s:Shared) (σ:St) (H:Hp) (v:V) (u:Value) (Q:St→Hp→Prop),Inv X pins σ H s→RelV v u→t v σ H Q→
  wpAny (model X.prog X.w) X.A (assign target X.env u) (fun _ s'=>∃σ' H',Inv X pins σ' H' s'∧Q σ' H') X.xe s
def PGs (X:Cx) (ts:List Expr) (t:TGs):Prop:=
 ∀(pins:List (Addr×Obj)) (s:Shared) (σ:St) (H:Hp) (vs:List V) (us:List Value) (Q:St→Hp→Prop),Inv X pins σ H s→Vals vs us→t vs σ H Q→
  wpAny (model X.prog X.w) X.A (assignInOrder ((assignEach ts X.env).map (·.2)) us) (fun _ s'=>∃σ' H',Inv X pins σ' H' s'∧Q σ' H') X.xe s
abbrev xV:=V→V→V→Hp→(Hp→Prop)→Prop
def xY (X:Cx) (t:xV):Prop:=
 ∀(pins:List (Addr×Obj)) (s:Shared) (σ:St) (H:Hp) (o i v:V) (ov iv u:Value) (Q:Hp→Prop),Inv X pins σ H s→RelV o ov→RelV i iv→RelV v u→t o i v H Q→
  wpAny (model X.prog X.w) X.A (setItem ov iv u) (fun _ s'=>∃H',Inv X pins σ H' s'∧Q H') X.xe s
section
variable {X:Cx} {pos:Pos}
def n4 (i:Nat):TG:=fun v σ H Q=>Q (σ.set i (some v)) H
theorem uP {i:Nat} {x:Str} (hN:X.N.Nodup) (hi:X.N[i]?=some x) (hx:Loc X.env.scope x) (hf:X.fn x=true∨X.env.scope.names.lookup x=some .local:=by first | exact .inl rfl | exact .inr rfl | assumption):PG X (.Name x pos) (n4 i):=by
 intro pins s σ H v u Q I r h
 exact wpAny_assign_Name (gA I hN hi hx r (fun s' I'=>⟨_,H,I',h⟩) hf)
def Af:TGs:=fun vs σ H Q=>vs=[]∧Q σ H
def y2 (t:TG) (u:TGs):TGs:=fun vs σ H Q=>∃v r,vs=v::r∧t v σ H fun σ' H'=>u r σ' H' Q
theorem uO:PGs X [] Af:=by
 intro pins s σ H vs us Q I r h
 obtain ⟨e,h⟩:=h
 subst e
 cases r
 exact assignInOrder_nil ⟨σ,H,I,h⟩
theorem sr {e:Expr} {es:List Expr} {t:TG} {u:TGs} (h1:PG X e t) (h2:PGs X es u)
  (hs:(assignEach (e::es) X.env).map (·.2)=assign e X.env::(assignEach es X.env).map (·.2):=by rfl):PGs X (e::es) (y2 t u):=by
 intro pins s σ H vs us Q I r h
 obtain ⟨v,vr,e1,h⟩:=h
 subst e1
 cases r with
 | cons r rr=>
  rw [hs]
  refine assignInOrder_cons (thn (h1 pins s σ H _ _ _ I r h) fun _ s1 ⟨σ1,H1,I1,q1⟩=>?_)
  exact h2 pins s1 σ1 H1 _ _ Q I1 rr q1
def Ae (K:PySem.W.Frag) (n:Nat) (t:TGs):TG:=fun v σ H Q=>∃a xs,v=.ref a∧SqT K H a xs∧xs.length=n∧t xs σ H Q
theorem wK {es:List Expr} {k:Nat} {t:TGs} {n:Nat} (hc:X.calm=true) (h:PGs X es t)
  (hn:(assignEach es X.env).length=n:=by rfl) (hst:(assignEach es X.env).findIdx? (·.1)=none:=by rfl):PG X (.Tuple es k pos) (Ae X.K n t):=by
 intro pins s σ H v u Q I r hw
 obtain ⟨a,xs,e1,hq,hl,hw⟩:=hw
 subst e1
 cases r
 obtain ⟨its,rv,ht,hz⟩:=I.tuple hq
 refine assign_Tuple_tuple (I.ok.hd hc) ht (by simp [hn,←hl,rv.length]) hst fun h' hx=>?_
 have I1:Inv X pins σ H {s with heap:=h'}:=I.kept (t':=s.toks) fun b o e=>hx b o (Nat.ne_of_lt (Heap.lt_size e)) e
 exact h pins _ σ H xs _ Q I1 (by simpa using rv) hw
def ke (to ti:TE) (t:xV):TG:=fun v σ H Q=>to σ H fun o H1=>ti σ H1 fun i H2=>t o i v H2 fun H3=>Q σ H3
theorem wL {o i:Expr} {to ti:TE} {t:xV} (ho:PE X o to) (hi:PE X i ti) (hs:xY X t)
  (ha:∀v,assign (.Subscript o i pos) X.env v=(do
   let ov←holding [v] (eval o X.env)
   let iv←holding [v,ov] (eval i X.env)
   standAt pos
   holding [v,ov,iv] (setItem ov iv v)
   release [v,ov,iv] []):=by intro _;rfl):PG X (.Subscript o i pos) (ke to ti t):=by
 intro pins s σ H v u Q I r h
 rw [ha]
 refine wpAny_bind (wpAny_holding (thn (ho pins s σ H _ I h) fun ov s1 ⟨x,H1,I1,r1,q1⟩=>?_))
 refine wpAny_bind (wpAny_holding (thn (hi pins s1 σ H1 _ I1 q1) fun iv s2 ⟨y,H2,I2,r2,q2⟩=>?_))
 refine wpAny_bind (wpAny_standAt (wpAny_bind (wpAny_holding (thn (hs pins s2 σ H2 x y v ov iv u _ I2 r1 r2 r q2) fun _ s3 ⟨H3,I3,q3⟩=>?_))))
 exact wpAny_release ⟨σ,H3,I3,q3⟩
def ud (te:TE) (g:TG):TS:=fun D σ H=>te σ H fun x H1=>g x σ H1 D.nx
theorem wH {tg e:Expr} {te:TE} {g:TG} (he:PE X e te) (hg:PG X tg g) (hs:swapsWithSole [tg] e pos.line X.env=pure false:=by rfl) (hw:swappedStores [tg] e X.env=pure none:=by rfl)
  (h1:(assignEach [tg] X.env).map (·.2)=[assign tg X.env]:=by rfl):PS X (.Assign [tg] e pos) (ud te g):=by
 intro pins s σ H D I h
 refine wpAny_Assign_stores (thn (he pins s σ H _ I h) fun v s1 ⟨x,H1,I1,r1,q1⟩=>?_) hs hw
 rw [h1]
 exact thn (hg pins s1 σ H1 x v _ I1 r1 q1) fun _ s2 q=>q
theorem wD {i:Nat} {x:Str} {e:Expr} {te:TE} {pos':Pos} (hN:X.N.Nodup) (hi:X.N[i]?=some x) (hx:Loc X.env.scope x) (he:PE X e te) (hs:swapsWith e (some (.Name x pos')) pos.line X.env=pure false:=by rfl) (hf:X.fn x=true∨X.env.scope.names.lookup x=some .local:=by first | exact .inl rfl | exact .inr rfl | assumption):
  PS X (.Assign [.Name x pos'] e pos) (ud te (n4 i)):=by
 intro pins s σ H D I h
 refine wpAny_Assign_Name (thn (he pins s σ H _ I h) fun v s1 ⟨y,H1,I1,r1,q1⟩=>?_) hs
 exact gA I1 hN hi hx r1 (fun s2 I2=>⟨_,H1,I2,q1⟩) hf
def yj (i j:Nat) (ta:TA):TS:=fun D σ H=>ta σ H fun vs H1=>∃v w,vs=[v,w]∧D.nx ((σ.set i (some v)).set j (some w)) H1
theorem oM {i j:Nat} {x y:Str} {a b:Expr} {ta:TA} {px py pt:Pos} {kt k2 pt2} (hc:X.calm=true) (hN:X.N.Nodup) (hi:X.N[i]?=some x) (hj:X.N[j]?=some y) (hij:i≠j)
  (hx:X.env.scope.names.lookup x=some .local) (hy:X.env.scope.names.lookup y=some .local) (ha:PA X [a,b] ta)
  (hw:swappedStores [.Tuple [.Name x px,.Name y py] kt pt] (.Tuple [a,b] k2 pt2) X.env=pure (some [x,y]))
  (hs:swapsWithSole [.Tuple [.Name x px,.Name y py] kt pt] (.Tuple [a,b] k2 pt2) pos.line X.env=pure false:=by rfl):
  PS X (.Assign [.Tuple [.Name x px,.Name y py] kt pt] (.Tuple [a,b] k2 pt2) pos) (yj i j ta):=by
 intro pins s σ H D I h
 rw [exec_Assign_arm]
 refine wpAny_bind (wpAny_standAt ?_)
 rw [hs]
 refine wpAny_bind (wpAny_pure ?_)
 rw [if_neg (by decide)]
 refine wpAny_bind (Tuple_ (thn (ha _ pins s σ H _ I h) fun us s1 ⟨vs,H1,I1,r1,q1⟩=>?_))
 obtain ⟨v,w,e1,q1⟩:=q1
 subst e1
 obtain ⟨u1,u2,rfl,rv,rw'⟩:∃u1 u2,us=[u1,u2]∧RelV v u1∧RelV w u2:=by
  cases r1 with
  | cons p q=>
   cases q with
   | cons p' q'=>
    cases q'
    exact ⟨_,_,rfl,p,p'⟩
 refine wpAny_newObj_type ?_ (by show 2≤sizeLine;decide)
 have I2:Inv X pins σ H1 {s1 with heap:=s1.heap.push {cls:=.type "tuple",data:=.seq [u1,u2].toArray}}:=I1.kept (t':=s1.toks) fun b o e=>Heap.get?_push_of_some _ e
 rw [hw]
 refine wpAny_bind (wpAny_pure ?_)
 show wpAny (model X.prog X.w) X.A (do rule "assign.swapped-stores";let items←unpackItems (.ref s1.heap.objs.size) 2 none;assignInOrder [fun v=>bindName X.env y v,fun v=>bindName X.env x v] items.reverse;pure Flow.next) _ _ _
 refine wpAny_bind (wpAny_rule (wpAny_bind (unpackItems_tuple (items:=#[u1,u2]) (I.ok.hd hc) (IsTup.new s1.heap _) fun h' hx'=>?_)))
 have I3:=I2.kept (h':=h') (t':=s1.toks) fun b o e=>hx' b o (Nat.ne_of_lt (Heap.lt_size e)) e
 show wpAny _ _ (assignInOrder [fun v=>bindName X.env y v,fun v=>bindName X.env x v] [u2,u1] >>=fun _=>pure Flow.next) _ _ _
 refine wpAny_bind (assignInOrder_cons (wpAny_bindName (gA I3 hN hj (.inl hy) rw' (fun s2 I4=>?_) (.inr hy))))
 refine assignInOrder_cons (wpAny_bindName (gA I4 hN hi (.inl hx) rv (fun s3 I5=>assignInOrder_nil (wpAny_pure ?_)) (.inr hx)))
 rw [List.set_comm _ _ (Ne.symm hij)] at I5
 exact ⟨_,H1,I5,q1⟩
end
section
variable {X:Cx} {pos:Pos}
def rq (c:TT) (tb:TS):TS:=fun D σ H=>∃W:Nat→St→Hp→Prop,(∃m,W m σ H)∧∀m σ H,W m σ H→
 c σ H fun b H1=>if b=true then ∃N:St→Hp→Prop,(∀σ' H',N σ' H'→∃m',m' < m∧W m' σ' H')∧tb {D with nx:=N,ct:=N,bk:=D.nx} σ H1 else D.nx σ H1
theorem si {c:Expr} {body:List Stmt} {tc:TT} {tb:TS} (hp:PassesOwn (model X.prog X.w) X.A X.env X.xe) (hc:PT X c tc) (hb:PSs X body tb):PS X (.While c body [] pos) (rq tc tb):=by
 intro pins s σ H D I h
 obtain ⟨W,⟨m0,w0⟩,turn⟩:=h
 refine wpAny_While (codeAny_whileLoop (fun n s'=>∃σ' H',Inv X pins σ' H' s'∧W n σ' H') ?_ m0 ⟨σ,H,I,w0⟩)
 rintro n s1 ⟨σ1,H1,I1,w1⟩
 refine wpAny_passesOwn hp (thn (hc pins s1 σ1 H1 _ I1 (turn n σ1 H1 w1)) fun b s2 ⟨H2,I2,q2⟩=>?_)
 cases b with
 | true=>
  obtain ⟨N,hN,q2⟩:=q2
  rw [if_pos rfl]
  refine wpAny_passesOwn hp (thn (hb pins s2 σ1 H2 _ I2 q2) fun f s3 q3=>?_)
  cases f with
  | next=>
   obtain ⟨σ3,H3,I3,n3⟩:=q3
   obtain ⟨m',hm,w3⟩:=hN σ3 H3 n3
   exact ⟨m',hm,σ3,H3,I3,w3⟩
  | cont=>
   obtain ⟨σ3,H3,I3,n3⟩:=q3
   obtain ⟨m',hm,w3⟩:=hN σ3 H3 n3
   exact ⟨m',hm,σ3,H3,I3,w3⟩
  | brk=>exact q3
  | ret v=>exact q3
 | false=>
  rw [if_neg Bool.false_ne_true]
  exact wpAny_execs_nil ⟨σ1,H2,I2,q2⟩
end
structure It where
 go:Nat→Hp→Prop
 yld:Nat→Hp→V→Hp→Prop
 stop:Nat→Hp→Prop
def fm (X:Cx) (pins:List (Addr×Obj)) (H:Hp) (b:Addr):Prop:=
 H b=none∧b≠X.env.locals∧b∉X.fs∧(b∈X.ex∨X.s₀.heap.objs.size≤b)∧(∀x c,X.env.cells.lookup x=some c→c≠b)∧∀p∈X.pn++pins,p.1≠b
theorem Inv.o6 {X:Cx} {pins:List (Addr×Obj)} {σ:St} {H H':Hp} {s:Shared} {b:Addr} (I:Inv X pins σ H s) (hb:s.heap.objs.size≤b) (hn:H' b=none):fm X pins H' b:=by
 refine ⟨hn,Nat.ne_of_gt (Nat.lt_of_lt_of_le I.lt hb),I.zV hb,.inr (Nat.le_trans I.sz hb),fun x c e z=>?_,fun p hp z=>?_⟩
 ·obtain ⟨v,q⟩:=I.cell x c e
  exact absurd (Nat.lt_of_lt_of_le q.lt (by rw [z];exact hb)) (Nat.lt_irrefl _)
 ·exact absurd (Nat.lt_of_lt_of_le (Heap.lt_size (I.pin p hp).1) (by rw [z];exact hb)) (Nat.lt_irrefl _)
structure Turn (P:Program) (w:World) (K:PySem.W.Frag) (tg:Expr) (J:It) (fp:List Addr) (it:Addr) (tn:Nat→Heap→Prop):Prop where
 mem:it∈fp
 obj:∀i h,tn i h→∀b∈fp,∃o,h.get? b=some o∧∀v,o.data≠.cell v
 keep:∀i h h',tn i h→(∀b∈fp,∀o,h.get? b=some o→h'.get? b=some o)→tn i h'
 item:∀(X:Cx),X.prog=P→X.w=w→X.K=K→X.calm=true→∀(i:Nat) (pins:List (Addr×Obj)) (s:Shared) (σ:St) (H:Hp) (E:Value→Shared→Prop),Inv X pins σ H s→(∀b∈fp,fm X pins H b)→tn i s.heap→J.go i H→
  wpAny (model P w) X.A (pyNext (.ref it)) (fun r s1=>∃u,r=some u∧
   wpAny (model P w) X.A (letOwnedTupleGo tg (.ref it) u) (fun _ s2=>∃x H',Inv X pins σ H' s2∧RelV x u∧J.yld i H x H'∧tn (i+1) s2.heap∧∀b∈fp,H' b=none) E s1) E s
 done:∀(X:Cx),X.prog=P→X.w=w→X.K=K→X.calm=true→∀(i:Nat) (pins:List (Addr×Obj)) (s:Shared) (σ:St) (H:Hp) (E:Value→Shared→Prop),Inv X pins σ H s→(∀b∈fp,fm X pins H b)→tn i s.heap→J.stop i H→
  wpAny (model P w) X.A (pyNext (.ref it)) (fun r s1=>r=none∧Inv X pins σ H s1) E s
 self:∀(A:Around) (i:Nat) (s:Shared) (Q:Value→Shared→Prop) (E:Value→Shared→Prop),tn i s.heap→Q (.ref it) s→wpAny (model P w) A (pyIter (.ref it)) Q E s
abbrev TI:=St→Hp→(It→Hp→Prop)→Prop
def PIE (X:Cx) (pins:List (Addr×Obj)) (σ:St) (tg:Expr) (R:It→Hp→Prop) (itv:Value) (s2:Shared):Prop:=
 ∃(it:Addr) (fp:List Addr) (tn:Nat→Heap→Prop) (J:It) (H':Hp),itv=.ref it∧Inv X pins σ H' s2∧Turn X.prog X.w X.K tg J fp it tn∧tn 0 s2.heap∧(∀b∈fp,fm X pins H' b)∧R J H'
def PI (X:Cx) (tg iter:Expr) (wi:TI):Prop:=
 ∀(pins:List (Addr×Obj)) (s:Shared) (σ:St) (H:Hp) (R:It→Hp→Prop),Inv X pins σ H s→wi σ H R→
  wpAny (model X.prog X.w) X.A (eval iter X.env) (fun v s1=>wpAny (model X.prog X.w) X.A (pyIter v) (PIE X pins σ tg R) X.xe s1) X.xe s
theorem sS {M:Model} {A:Around} {E:Value→Shared→Prop} {s:Shared} {tg:Expr} {it:Addr} {u:Value} {o:Obj} {n:String} {vs:Array Value} {Q:Unit→Shared→Prop} (ho:s.heap.get? it=some o) (hc:o.cls=.type n) (hd:o.data=.fields vs)
  (hn:["enumerate","zip","dict_itemiterator","dict_reverseitemiterator","odict_iterator","itertools.zip_longest","itertools.pairwise"].contains n=false) (hQ:Q () s):wpAny M A (letOwnedTupleGo tg (.ref it) u) Q E s:=by
 unfold letOwnedTupleGo
 cases tg <;> first
  | exact wpAny_pure hQ
  | (cases u <;> first
    | exact wpAny_pure hQ
    | (refine wpAny_bind (wpAny_load ho ?_);rw [hc,hd];show wpAny M A (if (["enumerate","zip","dict_itemiterator","dict_reverseitemiterator","odict_iterator","itertools.zip_longest","itertools.pairwise"].contains n&&vs[0]?==some (rawInt _))=true then _ else _) Q E s;rw [if_neg (by intro h;rw [hn,Bool.false_and] at h;cases h)];exact wpAny_pure hQ))
def Itl (K:PySem.W.Frag) (a:Addr):It:=
 ⟨fun i H=>∃xs x,SqL K H a xs∧xs[i]?=some x,fun i H x H'=>H'=H∧∀xs,SqL K H a xs→xs[i]?=some x,fun i H=>∃xs,SqL K H a xs∧xs.length≤i⟩
def Itt (K:PySem.W.Frag) (a:Addr):It:=
 ⟨fun i H=>∃xs x,SqT K H a xs∧xs[i]?=some x,fun i H x H'=>H'=H∧∀xs,SqT K H a xs→xs[i]?=some x,fun i H=>∃xs,SqT K H a xs∧xs.length≤i⟩
def Itr (lo:Int) (n:Nat):It:=⟨fun i _=>i < n,fun i H x H'=>H'=H∧x=.int (lo+i),fun i _=>n≤i⟩
theorem qe {P:Program} {w:World} {K:PySem.W.Frag} {tg:Expr} (a it:Addr):Turn P w K tg (Itl K a) [it] it (fun i h=>h.IsListIter it a i) where
 mem:=by simp
 obj:=fun i h st b hb=>by
  have e:b=it:=by simpa using hb
  subst e
  obtain ⟨o,e,c,d⟩:=st
  exact ⟨o,e,fun v z=>by rw [d] at z;cases z⟩
 keep:=fun i h h' st k=>st.at fun o e=>k it (by simp) o e
 item:=by
  intro X hP hw hK hc i pins s σ H E I hf st hg
  subst hP hw hK
  obtain ⟨xs,x,hq,hx⟩:=hg
  obtain ⟨its,rv,p,hz⟩:=I.list hq
  obtain ⟨u,hu,ru⟩:=rv.get hx
  obtain ⟨f0,f1,f2,f3,f4,f5⟩:=hf it (by simp)
  refine wpAny_pyNext_list_item st p.isList (x:=u) (by simpa using hu) fun h' st' sb=>?_
  have I1:Inv X pins σ H {s with heap:=h'}:=I.turned (t':=s.toks) (fun b o hb e=>(sb.2 b hb).trans e) f0 f1 f3 f4 f5
  obtain ⟨o,e,c,d⟩:=id st'
  exact ⟨u,rfl,sS (s:={s with heap:=h'}) e c d (by decide) ⟨x,H,I1,ru,⟨rfl,fun ys hy=>by rw [I.nX hy hq];exact hx⟩,st',fun b hb=>(hf b hb).1⟩⟩
 done:=by
  intro X hP hw hK hc i pins s σ H E I hf st hg
  subst hP hw hK
  obtain ⟨xs,hq,hx⟩:=hg
  obtain ⟨its,rv,p,hz⟩:=I.list hq
  obtain ⟨f0,f1,f2,f3,f4,f5⟩:=hf it (by simp)
  have hl:=rv.length
  exact wpAny_pyNext_list_end (I.ok.hd hc) st p.isList (by simp;omega) fun h' eb=>⟨rfl,I.turned (t':=s.toks) (fun b o hb e=>eb b o hb e) f0 f1 f3 f4 f5⟩
 self:=fun _ _ _ _ _ st h=>wpAny_pyIter_listiter st h
theorem oz {P:Program} {w:World} {K:PySem.W.Frag} {tg:Expr} (a it:Addr):Turn P w K tg (Itt K a) [it] it (fun i h=>h.IsTupleIter it a i) where
 mem:=by simp
 obj:=fun i h st b hb=>by
  have e:b=it:=by simpa using hb
  subst e
  obtain ⟨o,e,c,d⟩:=st
  exact ⟨o,e,fun v z=>by rw [d] at z;cases z⟩
 keep:=fun i h h' st k=>st.at fun o e=>k it (by simp) o e
 item:=by
  intro X hP hw hK hc i pins s σ H E I hf st hg
  subst hP hw hK
  obtain ⟨xs,x,hq,hx⟩:=hg
  obtain ⟨its,rv,p,hz⟩:=I.tuple hq
  obtain ⟨u,hu,ru⟩:=rv.get hx
  obtain ⟨f0,f1,f2,f3,f4,f5⟩:=hf it (by simp)
  refine wpAny_pyNext_tuple_item st (show s.heap.IsTuple a its.toArray from p) (x:=u) (by simpa using hu) fun h' st' sb=>?_
  have I1:Inv X pins σ H {s with heap:=h'}:=I.turned (t':=s.toks) (fun b o hb e=>(sb.2 b hb).trans e) f0 f1 f3 f4 f5
  obtain ⟨o,e,c,d⟩:=id st'
  exact ⟨u,rfl,sS (s:={s with heap:=h'}) e c d (by decide) ⟨x,H,I1,ru,⟨rfl,fun ys hy=>by rw [I.ku hy hq];exact hx⟩,st',fun b hb=>(hf b hb).1⟩⟩
 done:=by
  intro X hP hw hK hc i pins s σ H E I hf st hg
  subst hP hw hK
  obtain ⟨xs,hq,hx⟩:=hg
  obtain ⟨its,rv,p,hz⟩:=I.tuple hq
  obtain ⟨f0,f1,f2,f3,f4,f5⟩:=hf it (by simp)
  have hl:=rv.length
  exact wpAny_pyNext_tuple_end (I.ok.hd hc) st (show s.heap.IsTuple a its.toArray from p) (by simp;omega) fun h' eb=>⟨rfl,I.turned (t':=s.toks) (fun b o hb e=>eb b o hb e) f0 f1 f3 f4 f5⟩
 self:=fun _ _ _ _ _ st h=>wpAny_pyIter_tupleiter st h
theorem oA {P:Program} {w:World} {K:PySem.W.Frag} {tg:Expr} (it:Addr) (lo:Int) (n:Nat):Turn P w K tg (Itr lo n) [it] it (fun i h=>IsRangeIter h it (lo+(i:Nat)*1) ((n:Int)-(i:Nat)) 1) where
 mem:=by simp
 obj:=fun i h st b hb=>by
  have e:b=it:=by simpa using hb
  subst e
  exact ⟨_,st,fun v z=>by
   have z':Data.fields _=Data.cell v:=z
   cases z'⟩
 keep:=fun i h h' st k=>k it (by simp) _ st
 item:=by
  intro X hP hw hK hc i pins s σ H E I hf st hg
  subst hP hw hK
  obtain ⟨f0,f1,f2,f3,f4,f5⟩:=hf it (by simp)
  have W:=Walks.range (prog:=X.prog) (w:=X.w) (I.ok.hd hc) it lo 1 n
  refine W.item i s _ _ hg st fun v h' tk hv st' kk=>?_
  obtain ⟨t,rfl⟩:=hv
  have I1:Inv X pins σ H {s with heap:=h',toks:=tk}:=I.turned (fun b o hb e=>kk b o (by simpa using hb) e) f0 f1 f3 f4 f5
  refine ⟨_,rfl,sS (s:={s with heap:=h',toks:=tk}) (n:="range_iterator") st' rfl rfl (by decide) ⟨.int (lo+i),H,I1,⟨t,?_⟩,⟨rfl,rfl⟩,st',fun b hb=>(hf b hb).1⟩⟩
  rw [Int.mul_one]
 done:=by
  intro X hP hw hK hc i pins s σ H E I hf st hg
  subst hP hw hK
  obtain ⟨f0,f1,f2,f3,f4,f5⟩:=hf it (by simp)
  exact wpAny_pyNext_range_end (I.ok.hd hc) st (by have:n≤i:=hg;omega) fun h' eb=>⟨rfl,I.turned (t':=s.toks) (fun b o hb e=>eb b o hb e) f0 f1 f3 f4 f5⟩
 self:=fun _ _ _ _ _ st h=>wpAny_pyIter_rangeiter st h
end L2
namespace L2
open PySem PySem.Spec PyProof.Rows
section
variable {X:Cx} {tg:Expr}
theorem rZ {pins:List (Addr×Obj)} {σ:St} {H:Hp} {s:Shared} {R:It→Hp→Prop} {E:Value→Shared→Prop} {lo hi:Int} {t u v:Tok} {tk:Nat} (I:Inv X pins σ H s) (h1:-(2^62)≤lo) (h2:lo < 2^62) (h3:-(2^62)≤hi) (h4:hi < 2^62)
  (q:R (Itr lo (hi-lo).toNat) H):wpAny (model X.prog X.w) X.A (pyIter (.ref s.heap.objs.size)) (PIE X pins σ tg R) E {s with heap:=s.heap.push {cls:=.type "range",data:=.fields #[.int lo t,.int hi u,.int 1 v]},toks:=tk}:=by
 refine wpAny_pyIter_range (IsRange.new ..) (small_one h1 h2 h3 h4) ?_
 have I1:Inv X pins σ H {s with heap:=s.heap.push {cls:=.type "range",data:=.fields #[.int lo t,.int hi u,.int 1 v]},toks:=tk}:=I.kept fun b o e=>Heap.get?_push_of_some _ e
 refine ⟨(s.heap.push {cls:=.type "range",data:=.fields #[.int lo t,.int hi u,.int 1 v]}).objs.size,[(s.heap.push {cls:=.type "range",data:=.fields #[.int lo t,.int hi u,.int 1 v]}).objs.size],_,_,H,rfl,
  I1.kept (t':=tk) fun b o e=>Heap.get?_push_of_some _ e,oA _ lo (hi-lo).toNat,?_,fun b hb=>?_,q⟩
 ·have e1:lo+((0:Nat):Int)*1=lo:=by simp
  have e2:(((hi-lo).toNat:Nat):Int)-((0:Nat):Int)=Builtin.Range.rangeSize lo hi 1:=by rw [rangeSize_one];split <;> omega
  show IsRangeIter _ _ (lo+((0:Nat):Int)*1) ((((hi-lo).toNat:Nat):Int)-((0:Nat):Int)) 1
  rw [e1,e2]
  exact Heap.get?_push_size _ rfl
 ·have e:b=(s.heap.push {cls:=.type "range",data:=.fields #[.int lo t,.int hi u,.int 1 v]}).objs.size:=by simpa using hb
  subst e
  exact I1.o6 (Nat.le_refl _) (I1.hok.fresh (Nat.le_refl _))
def y1 (ta:TA):TI:=fun σ H R=>ta σ H fun vs H1=>∃j:Int,vs=[.int j]∧-(2^62)≤j∧j < 2^62∧R (Itr 0 j.toNat) H1
theorem qv {a:Expr} {ta:TA} {p pos:Pos} (hg:Gl X "range") (hm:X.mg "range"=none) (ha:PA X [a] ta) (hs:starEach [a] X.env=[(false,eval a X.env)]:=by rfl):PI X tg (.Call (.Name "range" p) [a] [] pos) (y1 ta):=by
 intro pins s σ H R I h
 refine Call_ (fI I hg hm boot_range (PyProof.Rows.callWith_type1 (thn (ha pos pins s σ H _ I h) fun us s1 ⟨vs,H1,I1,r1,q1⟩=>?_) hs rfl))
 obtain ⟨j,e,q1,q2,q⟩:=q1
 subst e
 cases r1 with
 | cons r rr=>
  cases rr
  obtain ⟨t,rfl⟩:=r
  exact call_range_1 (rZ I1 (by omega) (by omega) q1 q2 (by simpa using q))
def ym (wi:TI) (g:TG) (tb:TS):TS:=fun D σ H=>wi σ H fun J H1=>∃W:Nat→Nat→St→Hp→Prop,(∃m,W 0 m σ H1)∧∀i m σ H,W i m σ H→
 (J.stop i H∧D.nx σ H)∨(J.go i H∧∃N:St→Hp→Prop,(∀σ' H',N σ' H'→∃m',m' < m∧W (i+1) m' σ' H')∧∀x H',J.yld i H x H'→g x σ H' fun σ2 H2=>tb {D with nx:=N,ct:=N,bk:=D.nx} σ2 H2)
def jq (fp:List Addr) (h:Heap):List (Addr×Obj):=fp.filterMap fun b=>(h.get? b).map fun o=>(b,o)
theorem eY {fp:List Addr} {h:Heap} {b:Addr} {o:Obj} (hb:b∈fp) (e:h.get? b=some o):(b,o)∈jq fp h:=List.mem_filterMap.mpr ⟨b,hb,by rw [e];rfl⟩
theorem qx {fp:List Addr} {h:Heap} {p:Addr×Obj} (hp:p∈jq fp h):p.1∈fp∧h.get? p.1=some p.2:=by
 obtain ⟨b,hb,e⟩:=List.mem_filterMap.mp hp
 cases q:h.get? b with
 | none=>rw [q] at e;cases e
 | some o=>
  rw [q] at e
  have e':(b,o)=p:=Option.some.inj e
  subst e'
  exact ⟨hb,q⟩
theorem Inv.pinned {pins:List (Addr×Obj)} {σ:St} {H:Hp} {s:Shared} {fp:List Addr} (I:Inv X pins σ H s) (hf:∀b∈fp,fm X pins H b) (ho:∀b∈fp,∃o,s.heap.get? b=some o∧∀v,o.data≠.cell v):Inv X (pins++jq fp s.heap) σ H s:=
 I.pQ fun p hp=>(List.mem_append.mp hp).elim (fun z=>I.pin p (List.mem_append_right _ z)) fun z=>by
  obtain ⟨hb,e⟩:=qx z
  obtain ⟨f0,f1,f2,_⟩:=hf p.1 hb
  obtain ⟨o,e',d⟩:=ho p.1 hb
  rw [e] at e';cases e'
  exact ⟨e,f0,f1,f2,d⟩
theorem Inv.gz {pins pl:List (Addr×Obj)} {σ:St} {H:Hp} {s:Shared} (I:Inv X (pins++pl) σ H s):Inv X pins σ H s:=I.pQ fun p hp=>I.pin p (List.mem_append_right _ (List.mem_append_left _ hp))
theorem wG {iter:Expr} {body:List Stmt} {wi:TI} {g:TG} {tb:TS} {pos:Pos} (hp:PassesOwn (model X.prog X.w) X.A X.env X.xe) (hc:X.calm=true) (hi:PI X tg iter wi) (hg:PG X tg g) (hb:PSs X body tb)
  (hs:∀x,foldedSetIterable iter X.env x=pure x:=by intro _;rfl):PS X (.For tg iter body [] pos) (ym wi g tb):=by
 intro pins s σ H D I h
 refine wpAny_For (thn (hi pins s σ H _ I h) fun v s1 h1=>thn h1 fun itv s2 h2=>?_) hs
 obtain ⟨it,fp,tn,J,H2,e,I2,T,st2,f2,W,⟨m0,w0⟩,turn⟩:=h2
 subst e
 have stat:∀{H':Hp},(∀b∈fp,H' b=none)→∀b∈fp,fm X pins H' b:=fun hn b hb=>⟨hn b hb,(f2 b hb).2⟩
 refine codeAny_forLoop_any (fun n s'=>∃i σ' H',Inv X pins σ' H' s'∧tn i s'.heap∧(∀b∈fp,H' b=none)∧W i n σ' H') ?_ m0 ⟨0,σ,H2,I2,st2,fun b hb=>(f2 b hb).1,w0⟩
 rintro n s3 ⟨i,σ3,H3,I3,st3,fr3,w3⟩
 rcases turn i n σ3 H3 w3 with ⟨stop,qn⟩ | ⟨go,N,hN,step⟩
 ·refine wpAny_passesOwn hp (thn (T.done X rfl rfl rfl hc i pins s3 σ3 H3 X.xe I3 (stat fr3) st3 stop) fun r s4 ⟨hr,I4⟩=>?_)
  subst hr
  exact wpAny_execs_nil ⟨σ3,H3,I4,qn⟩
 ·refine wpAny_passesOwn hp (thn (T.item X rfl rfl rfl hc i pins s3 σ3 H3 X.xe I3 (stat fr3) st3 go) fun r s4 ⟨u,hr,h4⟩=>?_)
  subst hr
  refine wpAny_passesOwn hp (thn h4 fun _ s5 ⟨x,H5,I5,r5,y5,st5,fr5⟩=>?_)
  have I5':=I5.pinned (stat fr5) (T.obj _ _ st5)
  refine wpAny_passesOwn hp (thn (hg _ s5 σ3 H5 x u _ I5' r5 (step x H5 y5)) fun _ s6 ⟨σ6,H6,I6,q6⟩=>?_)
  refine wpAny_passesOwn hp (thn (hb _ s6 σ6 H6 _ I6 q6) fun f s7 q7=>?_)
  have again:∀{σ7:St} {H7:Hp},Inv X (pins++jq fp s5.heap) σ7 H7 s7→N σ7 H7→∃m,m < n∧∃i σ' H',Inv X pins σ' H' s7∧tn i s7.heap∧(∀b∈fp,H' b=none)∧W i m σ' H':=fun {σ7 H7} I7 n7=>by
   obtain ⟨m',hm,w7⟩:=hN σ7 H7 n7
   refine ⟨m',hm,i+1,σ7,H7,I7.gz,T.keep _ _ _ st5 fun b hb o e=>(I7.pin (b,o) (List.mem_append_right _ (List.mem_append_right _ (eY hb e)))).1,fun b hb=>?_,w7⟩
   obtain ⟨o,e,d⟩:=T.obj _ _ st5 b hb
   exact (I7.pin (b,o) (List.mem_append_right _ (List.mem_append_right _ (eY hb e)))).2.1
  cases f with
  | next=>obtain ⟨σ7,H7,I7,n7⟩:=q7;exact again I7 n7
  | cont=>obtain ⟨σ7,H7,I7,n7⟩:=q7;exact again I7 n7
  | brk=>obtain ⟨σ7,H7,I7,q7⟩:=q7;exact ⟨σ7,H7,I7.gz,q7⟩
  | ret v=>obtain ⟨x7,σ7,H7,I7,r7,q7⟩:=q7;exact ⟨x7,σ7,H7,I7.gz,r7,q7⟩
end
end L2
namespace L2
open PySem PySem.Spec PyProof.Rows
abbrev R2:=V→V→Hp→VK→Prop
def OpR (X:Cx) (f:Value→Value→Sem Value) (r:R2):Prop:=
 ∀(pins:List (Addr×Obj)) (s:Shared) (σ:St) (H:Hp) (x y:V) (v u:Value) (Q:VK),Inv X pins σ H s→RelV x v→RelV y u→r x y H Q→
  wpAny (model X.prog X.w) X.A (f v u) (EP X pins σ Q) X.xe s
def UnR (X:Cx) (f:Value→Sem Value) (r:V→Hp→VK→Prop):Prop:=
 ∀(pins:List (Addr×Obj)) (s:Shared) (σ:St) (H:Hp) (x:V) (v:Value) (Q:VK),Inv X pins σ H s→RelV x v→r x H Q→
  wpAny (model X.prog X.w) X.A (f v) (EP X pins σ Q) X.xe s
def dZ (X:Cx) (f:Value) (r:List V→Hp→VK→Prop):Prop:=
 ∀(pins:List (Addr×Obj)) (s:Shared) (σ:St) (H:Hp) (xs:List V) (us:List Value) (Q:VK),Inv X pins σ H s→Vals xs us→r xs H Q→
  wpAny (model X.prog X.w) X.A (call f us) (EP X pins σ Q) X.xe s
def Aj (X:Cx) (r:V→Hp→(Bool→Hp→Prop)→Prop):Prop:=
 ∀(pins:List (Addr×Obj)) (s:Shared) (σ:St) (H:Hp) (x:V) (v:Value) (Q:Bool→Hp→Prop),Inv X pins σ H s→RelV x v→r x H Q→
  wpAny (model X.prog X.w) X.A (truthy v) (TP X pins σ Q) X.xe s
def tOp (r:R2) (ta tb:TE):TE:=fun σ H Q=>ta σ H fun x H1=>tb σ H1 fun y H2=>r x y H2 Q
def tUn (r:V→Hp→VK→Prop) (ta:TE):TE:=fun σ H Q=>ta σ H fun x H1=>r x H1 Q
def rI (C:Int→Int→Prop) (g:Int→Int→V):R2:=fun x y H Q=>∃i j,x=.int i∧y=.int j∧C i j∧Q (g i j) H
def rI0 (g:Int→Int→V):R2:=fun x y H Q=>∃i j,x=.int i∧y=.int j∧Q (g i j) H
def rU (g:Int→V):V→Hp→VK→Prop:=fun x H Q=>∃i,x=.int i∧Q (g i) H
section
variable {X:Cx} {a b c:Expr} {ta tb tc:TE} {pos:Pos}
theorem xR (ha:PE X a ta) (hb:PE X b tb) {pins:List (Addr×Obj)} {s:Shared} {σ:St} {H:Hp} {R:V→V→Hp→Prop} (I:Inv X pins σ H s)
  (h:ta σ H fun x H1=>tb σ H1 fun y H2=>R x y H2) {Q:Value→Shared→Prop} {f:Value→Value→Sem Value}
  (hf:∀v u s2 x y H2,Inv X pins σ H2 s2→RelV x v→RelV y u→R x y H2→wpAny (model X.prog X.w) X.A (f v u) Q X.xe s2):
  wpAny (model X.prog X.w) X.A (eval a X.env) (fun v s₁=>wpAny (model X.prog X.w) X.A (eval b X.env) (fun u s₂=>wpAny (model X.prog X.w) X.A (f v u) Q X.xe s₂) X.xe s₁) X.xe s:=by
 refine thn (ha pins s σ H _ I h) fun v s1 ⟨x,H1,I1,r1,q1⟩=>?_
 refine thn (hb pins s1 σ H1 _ I1 q1) fun u s2 ⟨y,H2,I2,r2,q2⟩=>?_
 exact hf v u s2 x y H2 I2 r1 r2 q2
theorem vz {op:Operator} {r:R2} (ho:OpR X (binaryOp op) r) (ha:PE X a ta) (hb:PE X b tb):PE X (.BinOp a op b pos) (tOp r ta tb):=by
 intro pins s σ H Q I h
 exact wpAny_BinOp (xR ha hb I h fun v u s2 x y H2 I2 rx ry q=>ho pins s2 σ H2 x y v u Q I2 rx ry q)
theorem yP {op:UnaryOp} {r:V→Hp→VK→Prop} (ho:UnR X (unaryOp op) r) (ha:PE X a ta):PE X (.UnaryOp op a pos) (tUn r ta):=by
 intro pins s σ H Q I h
 exact UnaryOp_ (thn (ha pins s σ H _ I h) fun v s1 ⟨x,H1,I1,r1,q1⟩=>ho pins s1 σ H1 x v Q I1 r1 q1)
theorem opI {f:Value→Value→Sem Value} {C:Int→Int→Prop} {g:Int→Int→Int}
  (rule:∀(i j:Int) (t u:Tok) (s:Shared) (Q:Value→Shared→Prop) (E:Value→Shared→Prop),C i j→Q (.int (g i j) s.toks) {s with toks:=s.toks+1}→wpAny (model X.prog X.w) X.A (f (.int i t) (.int j u)) Q E s):
  OpR X f (rI C fun i j=>.int (g i j)):=by
 intro pins s σ H x y v u Q I rx ry h
 obtain ⟨i,j,rfl,rfl,hc,q⟩:=h
 obtain ⟨t,rfl⟩:=rx
 obtain ⟨t',rfl⟩:=ry
 exact rule i j t t' s _ _ hc ⟨.int (g i j),H,I.tok _,⟨_,rfl⟩,q⟩
theorem yX {f:Value→Value→Sem Value} {g:Int→Int→Int}
  (rule:∀(i j:Int) (t u:Tok) (s:Shared) (Q:Value→Shared→Prop) (E:Value→Shared→Prop),Q (.int (g i j) s.toks) {s with toks:=s.toks+1}→wpAny (model X.prog X.w) X.A (f (.int i t) (.int j u)) Q E s):
  OpR X f (rI0 fun i j=>.int (g i j)):=by
 intro pins s σ H x y v u Q I rx ry h
 obtain ⟨i,j,rfl,rfl,q⟩:=h
 obtain ⟨t,rfl⟩:=rx
 obtain ⟨t',rfl⟩:=ry
 exact rule i j t t' s _ _ ⟨.int (g i j),H,I.tok _,⟨_,rfl⟩,q⟩
theorem xk {f:Value→Value→Sem Value} {g:Int→Int→Bool}
  (rule:∀(i j:Int) (t u:Tok) (s:Shared) (Q:Value→Shared→Prop) (E:Value→Shared→Prop),Q (.bool (g i j)) s→wpAny (model X.prog X.w) X.A (f (.int i t) (.int j u)) Q E s):
  OpR X f (rI0 fun i j=>.bl (g i j)):=by
 intro pins s σ H x y v u Q I rx ry h
 obtain ⟨i,j,rfl,rfl,q⟩:=h
 obtain ⟨t,rfl⟩:=rx
 obtain ⟨t',rfl⟩:=ry
 exact rule i j t t' s _ _ ⟨.bl (g i j),H,I,rfl,q⟩
def Ak (i j:Int):Prop:=0≤j∧j≤1000000∧i.natAbs < 2^64
def xZ (i j:Int):Prop:=(-(2^64) < i∧i < 2^64)∨(-(2^64) < j∧j < 2^64)
theorem xZ.ok {i j:Int} (h:xZ i j):IntMulOk i j:=by
 rcases h with ⟨h1,h2⟩ | ⟨h1,h2⟩
 ·exact .of_left (intBits_le_64 h1 h2)
 ·exact .of_right (intBits_le_64 h1 h2)
theorem xj:OpR X (binaryOp .Add) (rI0 fun i j=>.int (i+j)):=yX fun _ _ _ _ _ _ _ q=>add_int q
theorem xb:OpR X (binaryOp .Sub) (rI0 fun i j=>.int (i-j)):=yX fun _ _ _ _ _ _ _ q=>sub_int q
theorem xg:OpR X (binaryOp .Mult) (rI xZ fun i j=>.int (i*j)):=opI fun _ _ _ _ _ _ _ hc q=>mul_int q hc.ok
theorem xh:OpR X (binaryOp .Mod) (rI (fun _ j=>0 < j) fun i j=>.int (i % j)):=opI fun i j _ _ _ _ _ hc q=>by
 have h1:(0:Int) < j:=hc
 exact mod_int' (by omega) (by rw [Int.fmod_eq_emod_of_nonneg i (by omega)];exact q)
theorem xf:OpR X (binaryOp .Pow) (rI Ak fun i j=>.int (i^j.toNat)):=opI fun _ _ _ _ _ _ _ hc q=>pow_int_small hc.1 hc.2.1 hc.2.2 q
theorem unI {f:Value→Sem Value} {g:Int→Int}
  (rule:∀(i:Int) (t:Tok) (s:Shared) (Q:Value→Shared→Prop) (E:Value→Shared→Prop),Q (.int (g i) s.toks) {s with toks:=s.toks+1}→wpAny (model X.prog X.w) X.A (f (.int i t)) Q E s):
  UnR X f (rU fun i=>.int (g i)):=by
 intro pins s σ H x v Q I rx h
 obtain ⟨i,rfl,q⟩:=h
 obtain ⟨t,rfl⟩:=rx
 exact rule i t s _ _ ⟨.int (g i),H,I.tok _,⟨_,rfl⟩,q⟩
theorem vF:UnR X (unaryOp .USub) (rU fun i=>.int (-i)):=unI fun _ _ _ _ _ q=>neg_int q
end
section
variable {X:Cx} {a b c:Expr} {ta tb tc:TE} {pos:Pos}
theorem xF {pins:List (Addr×Obj)} {σ:St} {H:Hp} {s:Shared} {Q:VK} {k k':Bool} (I:Inv X pins σ H s) (q:Q (.bl k) H) (e:k=k'):EP X pins σ Q (.bool k') s:=by
 subst e
 exact ⟨.bl k,H,I,rfl,q⟩
theorem yU:OpR X (compareOp .Lt) (rI0 fun i j=>.bl (decide (i < j))):=xk fun _ _ _ _ _ _ _ q=>lt_int q
theorem yV:OpR X (compareOp .Gt) (rI0 fun i j=>.bl (decide (j < i))):=xk fun _ _ _ _ _ _ _ q=>gt_int q
theorem yW:OpR X (compareOp .GtE) (rI0 fun i j=>.bl (decide (j≤i))):=xk fun _ _ _ _ _ _ _ q=>ge_int q
theorem xi:OpR X (compareOp .Is) (fun x y H Q=>y=.non∧Q (.bl (decide (x=.non))) H):=by
 intro pins s σ H x y v u Q I rx ry h
 obtain ⟨rfl,q⟩:=h
 cases ry
 refine is_none_gen (xF I q ?_)
 cases x <;> first
  | (cases rx;rfl)
  | (obtain ⟨t,rfl⟩:=rx;rfl)
theorem aF (b:Expr) {op:CmpOp} (h:op≠.In:=by decide) (h2:op≠.NotIn:=by decide):behindInMarks op b=false:=by
 have e1:(op==CmpOp.In)=false:=by cases op <;> first | rfl | exact absurd rfl h
 have e2:(op==CmpOp.NotIn)=false:=by cases op <;> first | rfl | exact absurd rfl h2
 cases b <;> simp [behindInMarks,e1,e2]
theorem uR {op:CmpOp} {r:R2} (ho:OpR X (compareOp op) r) (ha:PE X a ta) (hb:PE X b tb) (hm:behindInMarks op b=false):PE X (.Compare a [op] [b] pos) (tOp r ta tb):=by
 intro pins s σ H Q I h
 exact wpAny_Compare1 (xR ha hb I h fun v u s2 x y H2 I2 rx ry q=>ho pins s2 σ H2 x y v u Q I2 rx ry q) hm
def yf (t:TE):TT:=fun σ H Q=>t σ H fun x H'=>∃k,x=.bl k∧Q k H'
theorem uD {op:CmpOp} {r:R2} (ho:OpR X (compareOp op) r) (ha:PE X a ta) (hb:PE X b tb) (hm:behindInMarks op b=false):PT X (.Compare a [op] [b] pos) (yf (tOp r ta tb)):=by
 intro pins s σ H Q I h
 refine wpAny_isTrue_Compare1 (thn (ha pins s σ H _ I h) fun v s1 ⟨x,H1,I1,r1,q1⟩=>thn (hb pins s1 σ H1 _ I1 q1) fun u s2 ⟨y,H2,I2,r2,q2⟩=>
  thn (ho pins s2 σ H2 x y v u _ I2 r1 r2 q2) fun c s3 ⟨z,H3,I3,r3,k,e,q3⟩=>?_) hm
 subst e
 cases r3
 exact wpAny_truthy_bool ⟨H3,I3,q3⟩
def xU (K:PySem.W.Frag) (x:V) (H:Hp) (k:Bool):Prop:=
 match x with
 | .non=>k=false
 | .bl b=>k=b
 | .int i=>k=(i !=0)
 | .str y=>y.length≤sizeLine∧k=((y.length:Int) !=0)
 | .byt y=>y.size≤sizeLine∧k=((y.size:Int) !=0)
 | .ref p=>(∃xs,SqL K H p xs∧k=!xs.isEmpty)∨(∃xs,SqT K H p xs∧k=!xs.isEmpty)∨∃kvs,H p=some (.dK kvs)∧k=!kvs.isEmpty
 | _=>False
theorem o3 {κ:Type} {kvs:List (κ×V)} {vs:List (κ×Value)} (r:KV kvs vs):(!vs.isEmpty)=!kvs.isEmpty:=by
 cases r <;> rfl
theorem jx {xs:List V} {its:List Value} (r:Vals xs its):(!its.toArray.isEmpty)=!xs.isEmpty:=by
 cases r <;> simp
theorem gu:(sizeLine:Nat) < 2^63:=by rw [sizeLine_eq];decide
theorem vH:Aj X (fun x H Q=>∃k,xU X.K x H k∧Q k H):=by
 intro pins s σ H x v Q I rx h
 obtain ⟨k,e,q⟩:=h
 have hl:=gu
 have hs:sizeLine=16777216:=sizeLine_eq
 cases x with
 | non=>
  cases rx
  have e':k=false:=e
  subst e'
  exact truthy_none ⟨H,I,q⟩
 | bl b=>
  cases rx
  have e':k=b:=e
  subst e'
  exact wpAny_truthy_bool ⟨H,I,q⟩
 | int i=>
  obtain ⟨t,rfl⟩:=rx
  have e':k=(i !=0):=e
  subst e'
  exact PySem.P.truthy_int ⟨H,I,q⟩
 | str y=>
  obtain ⟨t,rfl⟩:=rx
  obtain ⟨hy,e'⟩:y.length≤sizeLine∧k=((y.length:Int) !=0):=e
  subst e'
  exact PySem.P.truthy_str (by omega) ⟨H,I.tok _,q⟩
 | byt y=>
  obtain ⟨t,rfl⟩:=rx
  obtain ⟨hy,e'⟩:y.size≤sizeLine∧k=((y.size:Int) !=0):=e
  subst e'
  exact PySem.W.truthy_bytes (by omega) ⟨H,I.tok _,q⟩
 | ref p=>
  cases rx
  have e':(∃xs,SqL X.K H p xs∧k=!xs.isEmpty)∨(∃xs,SqT X.K H p xs∧k=!xs.isEmpty)∨∃kvs,H p=some (.dK kvs)∧k=!kvs.isEmpty:=e
  rcases e' with ⟨xs,hx,e'⟩ | ⟨xs,hx,e'⟩ | ⟨kvs,hx,e'⟩
  ·subst e'
   obtain ⟨its,r,pl,hz⟩:=I.list hx
   have hlen:=r.length
   exact wpAny_truthy_list pl.isList (by simp only [List.size_toArray];omega) ⟨H,I.tok _,by rw [jx r];exact q⟩
  ·subst e'
   obtain ⟨its,r,pl,hz⟩:=I.tuple hx
   have hlen:=r.length
   exact truthy_tuple pl (by simp only [List.size_toArray];omega) ⟨H,I.tok _,by rw [jx r];exact q⟩
  ·subst e'
   obtain ⟨hz,hS,vs,r,m⟩:kvs.length≤sizeLine∧(p==sysModules)=false∧∃vs,KV kvs vs∧s.heap.DictOf (bU X.prog X.w) p vs:=I.hok p _ hx
   have hlen:kvs.length=vs.length:=Paired.length r
   exact wpAny_truthy_dict hS m (by omega) ⟨H,I.tok _,by rw [o3 r];exact q⟩
 | _=>exact (show False from e).elim
theorem sg (ha:PE X a ta) (he:∀whole,isTrue a X.env whole=(do let v←whole;standAt a.pos;holding [v] (truthy v))):
  PT X a (fun σ H Q=>ta σ H fun x H'=>∃k,xU X.K x H' k∧Q k H'):=by
 intro pins s σ H Q I h
 exact isTrue_plain (thn (ha pins s σ H _ I h) fun v s1 ⟨x,H1,I1,r1,q1⟩=>vH pins s1 σ H1 x v Q I1 r1 q1) (he _)
theorem oP:OpR X (binaryOp .Add) (fun x y H Q=>∃i j,x=.str i∧y=.str j∧i.length+j.length≤sizeLine∧Q (.str (i++j)) H):=by
 intro pins s σ H x y v u Q I rx ry h
 obtain ⟨i,j,rfl,rfl,hz,q⟩:=h
 obtain ⟨t,rfl⟩:=rx
 obtain ⟨t',rfl⟩:=ry
 exact add_str (fun t' tk=>⟨.str (i++j),H,I.tok _,⟨_,rfl⟩,q⟩) hz
theorem vals1 {x:V} {us:List Value} (r:Vals [x] us):∃u,us=[u]∧RelV x u:=by
 cases r with
 | cons r1 r2=>cases r2;exact ⟨_,rfl,r1⟩
theorem vals2 {x y:V} {us:List Value} (r:Vals [x,y] us):∃u w',us=[u,w']∧RelV x u∧RelV y w':=by
 cases r with
 | cons r1 r2=>
  cases r2 with
  | cons r3 r4=>cases r4;exact ⟨_,_,rfl,r1,r3⟩
theorem tT:dZ X (.builtin "abs") (fun xs H Q=>∃i,xs=[.int i]∧Q (.int (if i < 0 then -i else i)) H):=by
 intro pins s σ H xs us Q I r h
 obtain ⟨i,rfl,q⟩:=h
 obtain ⟨u,rfl,t,rfl⟩:=vals1 r
 exact call_abs_int fun u tk=>⟨.int (if i < 0 then -i else i),H,I.tok _,⟨_,rfl⟩,q⟩
theorem qY (hc:X.calm=true):dZ X (.builtin "max") (fun xs H Q=>∃i j,xs=[.int i,.int j]∧Q (.int (if j > i then j else i)) H):=by
 intro pins s σ H xs us Q I r h
 obtain ⟨i,j,rfl,q⟩:=h
 obtain ⟨u,w',rfl,⟨t,rfl⟩,⟨t',rfl⟩⟩:=vals2 r
 refine max_two_ints (I.ok.hd hc) fun h' tk k=>⟨_,H,I.kept k,?_,q⟩
 by_cases hj:j > i
 ·rw [if_pos hj,if_pos hj];exact ⟨_,rfl⟩
 ·rw [if_neg hj,if_neg hj];exact ⟨_,rfl⟩
theorem qX (hc:X.calm=true):dZ X (.builtin "min") (fun xs H Q=>∃i j,xs=[.int i,.int j]∧Q (.int (if j < i then j else i)) H):=by
 intro pins s σ H xs us Q I r h
 obtain ⟨i,j,rfl,q⟩:=h
 obtain ⟨u,w',rfl,⟨t,rfl⟩,⟨t',rfl⟩⟩:=vals2 r
 refine min_two_ints (I.ok.hd hc) fun h' tk k=>⟨_,H,I.kept k,?_,q⟩
 by_cases hj:j < i
 ·rw [if_pos hj,if_pos hj];exact ⟨_,rfl⟩
 ·rw [if_neg hj,if_neg hj];exact ⟨_,rfl⟩
end
end L2
namespace L2
open PySem PySem.Spec PyProof.Rows
structure ObjM (h:Heap) (x dx C:Addr) (mA:Str→Option Value):Prop where
 obj:h.get? x=some (PySem.W.instObj C dx)
 ns:h.Ns1 dx mA
 ne:dx≠x
theorem qC {h:Heap} {dx:Addr} {mA:Str→Option Value} (n:h.Ns1 dx mA):∃od,h.get? dx=some od∧∀name,PySem.W.lookIn name od=some (mA name):=by
 obtain ⟨o,es,ep,ho,hd,hk,_,hm⟩:=n
 refine ⟨o,ho,fun name=>?_⟩
 have e:=hm name
 unfold nsFind findBy at e
 rw [←Array.find?_toList] at e
 unfold PySem.W.lookIn
 rw [hd]
 dsimp only
 split
 ·rename_i y q
  rw [q] at e
  exact congrArg some e
 ·rename_i q
  rw [q] at e
  have a:es.toList.any (·.refKey)=false:=by
   rw [List.any_eq_false]
   intro y hy
   obtain ⟨z,t,hkey⟩:=hk y (Array.mem_toList_iff.mp hy)
   simp [DictEntry.refKey,hkey]
  have a':¬es.toList.any (·.refKey)=true:=by rw [a];exact Bool.false_ne_true
  rw [if_neg a']
  exact congrArg some e
theorem ObjM.look {h:Heap} {x dx C:Addr} {mA:Str→Option Value} (I:ObjM h x dx C mA):∃od,PySem.W.InstAt h x (PySem.W.instObj C dx) C (some od)∧∀name,PySem.W.lookIn name od=some (mA name):=
 let ⟨od,ho,hl⟩:=qC I.ns
 ⟨od,⟨I.obj,rfl,rfl,ho⟩,hl⟩
section
variable {prog:Program} {w:World} {A:Around} {E:Value→Shared→Prop} {s:Shared} {K:PySem.W.Frag} {x dx C f:Addr} {mA:Str→Option Value} {name:Str} {v:Value}
end
theorem jR.some_of {v:V} {o:Option Value} (r:jR (some v) o):∃u,o=some u∧RelV v u:=by
 cases o with
 | none=>exact (show False from r).elim
 | some u=>exact ⟨u,rfl,r⟩
section
variable {P:Program} {w:World} {H H':Hp} {h h':Heap} {a C dx:Addr} {fs fs':List (Str×V)}
theorem u5 (hok:HOk P w H h) (e:H a=some (.ins C dx fs)):∃mA,ObjM h a dx C mA∧(∀f,jR (fs.lookup f) (mA f))∧PySem.Within mA (fs.map (·.1))∧fs.length≤1000∧H dx=some (.own a):=by
 obtain ⟨d,z,ne,ob,mA,n,r,q⟩:=(show bZ P w H h a (.ins C dx fs) from hok a _ e)
 exact ⟨mA,⟨ob,n,ne⟩,r,q,z,d⟩
end
structure Cls (K:PySem.W.Frag) (C:Addr):Prop where
 pg:PySem.W.plainGet K C Str.empty=true
 hd:PySem.W.hasDictIn K C=true
 po:PySem.W.plainOver K C=true
 sa:PySem.W.findIn K (.ref C) "__setattr__"=some (some (.builtin "object.__setattr__"))
theorem Cls.get {K:PySem.W.Frag} {C:Addr} (c:Cls K C) (f:Str):PySem.W.plainGet K C f=true:=c.pg
section
variable {X:Cx} {pins:List (Addr×Obj)} {σ:St} {H:Hp} {s:Shared} {a C dx:Addr} {fs:List (Str×V)} {f:Str} {v:V} {A:Around} {E:Value→Shared→Prop}
end
section
variable {X:Cx} {o e value:Expr} {f:Str} {pos pos' tpos:Pos} {ta tv:TE}
end
section
variable {X:Cx} {pins:List (Addr×Obj)} {σ:St} {H:Hp} {s:Shared} {A:Around} {E:Value→Shared→Prop} {Q:Value→Shared→Prop} {c:Value} {b:Bool}
inductive TyOf (K:PySem.W.Frag) (H:Hp):V→Value→Prop where
 | non:TyOf K H .non (.type "NoneType")
 | bl (x:Bool):TyOf K H (.bl x) (.type "bool")
 | int (i:Int):TyOf K H (.int i) (.type "int")
 | str (x:Str):TyOf K H (.str x) (.type "str")
 | flt (x:UInt64):TyOf K H (.flt x) (.type "float")
 | lst {a:Addr} {xs:List V} (e:H a=some (.lst xs)):TyOf K H (.ref a) (.type "list")
 | frz {a:Addr} {o:Obj} {xs:List V} (e:H a=some (.frz o (.lst xs))):TyOf K H (.ref a) (.type "list")
 | tup {a:Addr} {xs:List V} (e:H a=some (.tup xs)):TyOf K H (.ref a) (.type "tuple")
 | dK {a:Addr} {kvs:List (Key×V)} (e:H a=some (.dK kvs)):TyOf K H (.ref a) (.type "dict")
 | dT {a:Addr} {kvs:List (List Key×V)} (e:H a=some (.dT kvs)):TyOf K H (.ref a) (.type "dict")
 | ins {a C dx:Addr} {fs:List (Str×V)} (e:H a=some (.ins C dx fs)) (cl:Cls K C) (ha:PySem.W.findIn K (.ref C) "__class__"=some (some (.builtin "object.__class__")))
   (hn:PySem.W.specialIn K (.builtin "object.__class__") "__get__"=some (some (.builtin "getset_descriptor.__get__"))) (htk:PySem.W.takesIn K (.builtin "object.__class__")=some true)
   (hm:PySem.W.mroIn K C (.type "object")=some true):TyOf K H (.ref a) (.ref C)
theorem qJ {x:V} {u t:Value} (I:Inv X pins σ H s) (rx:RelV x u) (ty:TyOf X.K H x t) (e:PySem.W.kitOne X.K t c=some b) (h:∀tk,Q (.bool b) {s with toks:=tk}):
  wpAny (model X.prog X.w) A (call (.builtin "isinstance") [u,c]) Q E s:=by
 cases ty with
 | non=>cases (show u=Value.none from rx);exact PySem.W.kia_one PySem.W.kitx_none I.kIn True.intro e (fun z=>nomatch z) h
 | bl y=>cases (show u=Value.bool y from rx);exact PySem.W.kia_one PySem.W.kitx_bool I.kIn True.intro e (fun z=>nomatch z) h
 | int i=>obtain ⟨t,q⟩:=(show ∃t,u=Value.int i t from rx);cases q;exact PySem.W.kia_one PySem.W.kitx_int I.kIn True.intro e (fun z=>nomatch z) h
 | str y=>obtain ⟨t,q⟩:=(show ∃t,u=Value.str y t from rx);cases q;exact PySem.W.kia_one PySem.W.kitx_str I.kIn True.intro e (fun z=>nomatch z) h
 | flt y=>obtain ⟨t,q⟩:=(show ∃t,u=Value.float y t from rx);cases q;exact PySem.W.kia_one PySem.W.kitx_float I.kIn True.intro e (fun z=>nomatch z) h
 | @lst a xs ea=>
  cases (show u=Value.ref a from rx)
  obtain ⟨_,_,n,_,h1⟩:=(show bZ X.prog X.w H s.heap a (.lst xs) from I.hok a _ ea)
  exact PySem.W.kia_one PySem.W.kitx_list I.kIn ⟨_,h1,rfl⟩ e (fun z=>nomatch z) h
 | @frz a ob xs ea=>
  cases (show u=Value.ref a from rx)
  obtain ⟨_,_,_,n,_,h1⟩:=(show bZ X.prog X.w H s.heap a (.frz ob (.lst xs)) from I.hok a _ ea)
  exact PySem.W.kia_one PySem.W.kitx_list I.kIn ⟨_,h1,rfl⟩ e (fun z=>nomatch z) h
 | @tup a xs ea=>
  cases (show u=Value.ref a from rx)
  obtain ⟨_,_,_,p⟩:=(show bZ X.prog X.w H s.heap a (.tup xs) from I.hok a _ ea)
  obtain ⟨o,h1,h2,_⟩:=p
  exact PySem.W.kia_one PySem.W.kitx_tuple I.kIn ⟨o,h1,h2⟩ e (fun z=>nomatch z) h
 | @dK a kvs ea=>
  cases (show u=Value.ref a from rx)
  obtain ⟨_,_,vs,_,p⟩:=(show bZ X.prog X.w H s.heap a (.dK kvs) from I.hok a _ ea)
  obtain ⟨o,es,ep,h1,h2,_⟩:=p
  exact PySem.W.kia_one PySem.W.kitx_dict I.kIn ⟨o,h1,h2.1⟩ e (fun z=>nomatch z) h
 | @dT a kvs ea=>
  cases (show u=Value.ref a from rx)
  obtain ⟨_,_,xs,_,o,es,ep,h1,h2,_⟩:=(show bZ X.prog X.w H s.heap a (.dT kvs) from I.hok a _ ea)
  exact PySem.W.kia_one PySem.W.kitx_dict I.kIn ⟨o,h1,h2.1⟩ e (fun z=>nomatch z) h
 | @ins a C dx fs ea cl ha hn htk hm=>
  cases (show u=Value.ref a from rx)
  obtain ⟨mA,O,_⟩:=u5 I.hok ea
  obtain ⟨od,J,_⟩:=O.look
  exact PySem.W.kia_one (PySem.W.kitx_own (cl.get _) cl.hd ha hn htk hm) I.kIn J e (fun z=>nomatch z) h
end
end L2
namespace L2
open PySem PySem.Spec PyProof.Rows
structure Room (k:Nat) (A:Around):Prop where
 hd:A.handled=none
 dp:A.depth+3*k+5 < recursionLimit
 un:A.units+16*k+200 < cLine
theorem Room.mono {j k:Nat} {A:Around} (r:Room k A) (h:j≤k):Room j A:=⟨r.hd,by have:=r.dp;omega,by have:=r.un;omega⟩
theorem Room.deeper {k:Nat} {A:Around} (r:Room (k+1) A) (env:Env):Room k (A.deeper env):=
 ⟨r.hd,by have:=r.dp;show A.depth+1+3*k+5 < _;omega,by have:=r.un;show A.units+3+16*k+200 < _;omega⟩
theorem Room.depth {k:Nat} {A:Around} (r:Room k A):A.depth < recursionLimit:=by have:=r.dp;omega
theorem Room.units {k:Nat} {A:Around} (r:Room k A):A.units+64 < cLine:=by have:=r.un;omega
def zo:TA:=fun _ H Q=>Q [] H
def yo (ta:TE) (tr:TA):TA:=fun σ H Q=>ta σ H fun x H1=>tr σ H1 fun xs H2=>Q (x::xs) H2
section
variable {X:Cx} {e:Expr} {es:List Expr} {te:TE} {t:TA} {pos:Pos}
theorem w5:PA X [] zo:=fun _ _ _ _ H Q I h=>Calls.spliced_nil ⟨[],H,I,.nil,h⟩
theorem uU (ha:PE X e te) (hr:PA X es t) (hs:starEach (e::es) X.env=(false,eval e X.env)::starEach es X.env:=by rfl):PA X (e::es) (yo te t):=by
 intro pos pins s σ H Q I h
 rw [hs]
 show wpAny _ _ (spliced ((false,eval e X.env)::backTo pos (starEach es X.env))) _ _ s
 refine Calls.spliced_cons (thn (ha pins s σ H _ I h) fun u s1 ⟨x,H1,I1,r1,q1⟩=>?_)
 exact thn (hr pos pins s1 σ H1 _ I1 q1) fun us s2 ⟨xs,H2,I2,r2,q2⟩=>⟨x::xs,H2,I2,.cons r1 r2,q2⟩
def zl (t:TA):TE:=fun σ H Q=>t σ H fun xs H1=>xs.length≤sizeLine∧∀p,H1 p=none→Q (.ref p) (upd H1 p (.tup xs))
def zq (t:TA):TE:=fun σ H Q=>t σ H fun xs H1=>xs.length≤sizeLine∧∀p,H1 p=none→Q (.ref p) (upd H1 p (.lst xs))
theorem wN {x1} (h:PA X es t):PE X (.Tuple es x1 pos) (zl t):=by
 intro pins s σ H Q I hq
 refine wpAny_Tuple_spliced (thn (h pos pins s σ H _ I hq) fun us s1 ⟨xs,H1,I1,r,z,q⟩=>⟨by rw [←r.length];exact z,?_⟩)
 have hf:H1 s1.heap.objs.size=none:=I1.hok.fresh (Nat.le_refl _)
 refine ⟨.ref s1.heap.objs.size,upd H1 s1.heap.objs.size (.tup xs),I1.laid (t':=s1.toks) (fun b u e=>Heap.get?_push_of_some _ e) (Nat.le_refl _) ?_,rfl,q _ hf⟩
 exact ⟨z,us,r,⟨_,Heap.get?_push_size _ rfl,rfl,⟨_,rfl⟩,rfl⟩⟩
theorem wW (h:PA X es t):PE X (.List es pos) (zq t):=by
 intro pins s σ H Q I hq
 refine wpAny_List_spliced (thn (h pos pins s σ H _ I hq) fun us s1 ⟨xs,H1,I1,r,z,q⟩=>⟨by rw [←r.length];exact z,?_⟩)
 have hf:H1 s1.heap.objs.size=none:=I1.hok.fresh (Nat.le_refl _)
 refine ⟨.ref s1.heap.objs.size,upd H1 s1.heap.objs.size (.lst xs),I1.laid (t':=s1.toks) (fun b u e=>Heap.get?_push_of_some _ e) (Nat.le_refl _) ?_,rfl,q _ hf⟩
 exact ⟨z,us,0,r,Heap.get?_push_size _ rfl⟩
end
abbrev Sp:=List V→Hp→VK→XK→Prop
abbrev CXT:=List Env→Hp→Shared→XK→Value→Shared→Prop
structure Env0 (P:Program) (w:World) (K:PySem.W.Frag) (mg:Str→Option Value) (base:Heap) (A:Around) (outer:List Env) (s:Shared) (H:Hp):Prop where
 frames:A.frames=some outer
 mod:Mod K mg base
 bs:∀b o,base.get? b=some o→s.heap.get? b=some o∧H b=none
 bsz:base.objs.size≤s.heap.objs.size
 jA:s.heap.FunFrames base outer
 frf:∀b∈frs outer,H b=none
 hok:HOk P w H s.heap
 bare:AllBare s.gens
def CE (outer:List Env) (P:Program) (w:World) (H:Hp) (s:Shared) (Q:VK) (u:Value) (s':Shared):Prop:=
 ∃v H',s'.os=s.os∧AllBare s'.gens∧Un (frs outer) [] H H' s.heap s'.heap∧HOk P w H' s'.heap∧RelV v u∧Q v H'
def CR (CX:CXT) (outer:List Env) (P:Program) (w:World) (H:Hp) (s:Shared) (Q:VK) (E:XK) (r:Result) (s':Shared):Prop:=
 match r with
 | .ok (.ret u)=>CE outer P w H s Q u s'
 | .ok _=>False
 | .error e=>CX outer H s E e s'
structure FnOk (P:Program) (w:World) (K:PySem.W.Frag) (mg:Str→Option Value) (base:Heap) (CX:CXT) (k:Nat) (f:Addr) (fd:FuncData) (ps:List Str) (sp:Sp):Prop where
 len:∀vs H Q E,sp vs H Q E→vs.length=ps.length
 run:∀(A:Around) (outer:List Env) (s:Shared) (H:Hp) (args:Args) (us:List Value) (vs:List V) (Q:VK) (E:XK),Room k A→Env0 P w K mg base A outer s H→BindsTo s fd args (ps.zip us)→Vals vs us→sp vs H Q E→
  codeAny (model P w) A (.call (.ref f) args) (CR CX outer P w H s Q E) s
theorem FnOk.imp {P:Program} {w:World} {K:PySem.W.Frag} {mg:Str→Option Value} {base:Heap} {CX:CXT} {k:Nat} {f:Addr} {fd:FuncData} {ps:List Str} {sp sp':Sp} (F:FnOk P w K mg base CX k f fd ps sp)
  (h:∀vs H Q E,sp' vs H Q E→sp vs H Q E):FnOk P w K mg base CX k f fd ps sp':=
 ⟨fun vs H Q E q=>F.len vs H Q E (h _ _ _ _ q),fun A outer s H args us vs Q E hr he hb hv hs=>F.run A outer s H args us vs Q E hr he hb hv (h _ _ _ _ hs)⟩
section
variable {X:Cx} {pins:List (Addr×Obj)} {σ:St} {H:Hp} {s s':Shared}
theorem Inv.Ag (I:Inv X pins σ H s):Env0 X.prog X.w X.K X.mg X.base X.A X.stack s H:=
 ⟨I.ok.frames,I.ok.mod,I.bs,Nat.le_trans I.ok.bsz I.sz,I.stack,I.pM,I.hok,I.bare⟩
theorem Inv.after {Q:VK} {u:Value} (I:Inv X pins σ H s) (h:CE X.stack X.prog X.w H s Q u s'):EP X pins σ Q u s':=by
 obtain ⟨v,H',os,bare,un,hok,r,q⟩:=h
 obtain ⟨hh,g,d,t,os'⟩:=s'
 obtain rfl:os'=s.os:=os
 exact ⟨v,H',I.call (h':=hh) (g':=g) (d':=d) (t':=t) (ch:=[]) un hok bare (fun b z=>absurd z (by simp)),r,q⟩
end
def yp (sp:Sp) (dvs:List V) (E:XK) (t:TA):TE:=fun σ H Q=>t σ H fun vs H1=>sp (vs++dvs) H1 Q E
def Binds (K:PySem.W.Frag) (fd:FuncData) (ps:List Str) (ds:List Value):Prop:=
 ∀(s:Shared) (us:List Value),K.In s.heap→(us++ds).length=ps.length→BindsTo s fd ⟨us,[]⟩ (ps.zip (us++ds))
theorem Binds.all {K:PySem.W.Frag} {fd:FuncData} {ps:List Str} (h:∀us:List Value,us.length=ps.length→bindArgs fd ⟨us,[]⟩=pure (ps.zip us)):Binds K fd ps []:=fun s us _ hl=>by
 rw [List.append_nil] at hl ⊢
 exact .of_eq (h us hl)
def Passes (CX:CXT) (X:Cx) (E:XK):Prop:=∀(pins:List (Addr×Obj)) (σ:St) (H:Hp) (s:Shared) (e:Value) (s':Shared),Inv X pins σ H s→CX X.stack H s E e s'→X.xe e s'
section
variable {X:Cx} {CX:CXT} {k:Nat} {f C:Addr} {fd:FuncData} {ps:List Str} {sp:Sp} {dvs:List V} {ds:List Value} {E:XK} {x m:Str} {p pos apos:Pos} {e o:Expr} {es:List Expr} {ta:TE} {t:TA}
theorem vU {pins:List (Addr×Obj)} {σ:St} {H:Hp} {s:Shared} {Q:VK} {us:List Value} {vs:List V} (F:FnOk X.prog X.w X.K X.mg X.base CX k f fd ps sp) (hr:Room k X.A) (hb:Binds X.K fd ps ds) (hd:Vals dvs ds) (hx:Passes CX X E)
  (I:Inv X pins σ H s) (r:Vals vs us) (h:sp (vs++dvs) H Q E):wpAny (model X.prog X.w) X.A (call (.ref f) us) (EP X pins σ Q) X.xe s:=by
 have r2:Vals (vs++dvs) (us++ds):=r.append hd
 have hl:(us++ds).length=ps.length:=by rw [←r2.length];exact F.len _ _ _ _ h
 refine wpAny_call (codeAny_mono (F.run X.A X.stack s H ⟨us,[]⟩ (us++ds) (vs++dvs) Q E hr I.Ag (hb s us I.kIn hl) r2 h) fun r s' hq=>?_)
 cases r with
 | error e=>exact hx pins σ H s e s' I hq
 | ok fl=>
  cases fl with
  | ret u=>exact I.after hq
  | next=>exact False.elim hq
  | brk=>exact False.elim hq
  | cont=>exact False.elim hq
theorem uS (F:FnOk X.prog X.w X.K X.mg X.base CX k f fd ps sp) (hr:Room k X.A) (hg:Gl X x) (hm:X.mg x=some (.ref f)) (hk:PySem.W.keepIn X.K (.ref f)=true) (hb:Binds X.K fd ps ds) (hd:Vals dvs ds) (hx:Passes CX X E)
  (ha:PA X (e::es) t) (hdb:(x==("__debug__":Str))=false:=by decide) (he:starEach (e::es) X.env=(false,eval e X.env)::starEach es X.env:=by rfl) (hpl:(backTo pos (starEach es X.env)).any (·.1)=false:=by rfl):
  PE X (.Call (.Name x p) (e::es) [] pos) (yp sp dvs E t):=by
 intro pins s σ H Q I h
 refine wpAny_Call_Name_kw (pU I hg hm ?_ hdb)
 refine PySem.W.callWith_K (h₀:=X.base) I.ok.mod.kin hk (thn (ha pos pins s σ H _ I h) fun us s1 ⟨vs,H1,I1,r,q⟩=>⟨I1.kIn,?_⟩) he hpl
 exact vU F hr hb hd hx I1 r q
end
section
variable {X:Cx} {CX:CXT} {k:Nat} {f C:Addr} {fd:FuncData} {ps ks:List Str} {sp:Sp} {E:XK} {x m:Str} {p pos apos kpos:Pos} {e o:Expr} {es:List Expr} {kws:List Keyword} {te ta:TE} {t tk:TA} {nm:Option Str}
variable {g:List Value→List Value→List Value} {gV:List V→List V→List V}
end
structure FnScope (N P:List Str) (sc:Scope):Prop where
 kind:sc.kind=.function
 co:sc.isCoroutine=false
 gen:sc.isGenerator=false
 nd:N.Nodup
 pre:N.take P.length=P
 par:∀x∈P,sc.names.lookup x=some .local∨sc.names.lookup x=some .cell
 nofree:∀y∈sc.names,y.2≠.free
theorem ly {kindOf:Str→Option NameKind} {x:Str}:∀{binds:List (Str×Value)} {m:Str→Option Value},(∀v,(x,v)∉binds)→bindL kindOf binds m x=m x
 | [],_,_=>rfl
 | (n,v)::r,m,h=>by
  unfold bindL
  rw [ly fun w hw=>h w (List.mem_cons_of_mem _ hw)]
  split
  ·have:x≠n:=by rintro rfl;exact h v List.mem_cons_self
   simp [this]
  ·rfl
theorem lD {kindOf:Str→Option NameKind} {x:Str}:∀{binds:List (Str×Value)} {m:Str→Option Value},(∀v,(x,v)∉binds)→bindC kindOf binds m x=m x
 | [],_,_=>rfl
 | (n,v)::r,m,h=>by
  unfold bindC
  rw [lD fun w hw=>h w (List.mem_cons_of_mem _ hw)]
  split
  ·rfl
  ·have:x≠n:=by rintro rfl;exact h v List.mem_cons_self
   simp [this]
theorem lC {kindOf:Str→Option NameKind} {x:Str} {v:Value}:∀{P:List Str} {vs:List Value} {i:Nat} {m:Str→Option Value},P.Nodup→P[i]?=some x→vs[i]?=some v→kindOf x=some .local→
  bindL kindOf (P.zip vs) m x=some v
 | [],_,_,_,_,h,_,_=>by simp at h
 | _::_,[],_,_,_,_,h,_=>by simp at h
 | p::P,w::vs,0,m,nd,h1,h2,hk=>by
  simp at h1 h2;subst h1;subst h2
  show bindL kindOf ((p,w)::P.zip vs) m p=_
  unfold bindL
  rw [ly fun v hv=>(List.nodup_cons.mp nd).1 (List.of_mem_zip hv).1,if_pos hk]
  simp
 | p::P,w::vs,i+1,m,nd,h1,h2,hk=>by
  show bindL kindOf ((p,w)::P.zip vs) m x=_
  unfold bindL
  exact lC (i:=i) (List.nodup_cons.mp nd).2 (by simpa using h1) (by simpa using h2) hk
theorem lE {kindOf:Str→Option NameKind} {x:Str} {v:Value}:∀{P:List Str} {vs:List Value} {i:Nat} {m:Str→Option Value},P.Nodup→P[i]?=some x→vs[i]?=some v→kindOf x≠some .local→
  bindC kindOf (P.zip vs) m x=some v
 | [],_,_,_,_,h,_,_=>by simp at h
 | _::_,[],_,_,_,_,h,_=>by simp at h
 | p::P,w::vs,0,m,nd,h1,h2,hk=>by
  simp at h1 h2;subst h1;subst h2
  show bindC kindOf ((p,w)::P.zip vs) m p=_
  unfold bindC
  rw [lD fun v hv=>(List.nodup_cons.mp nd).1 (List.of_mem_zip hv).1,if_neg hk]
  simp
 | p::P,w::vs,i+1,m,nd,h1,h2,hk=>by
  show bindC kindOf ((p,w)::P.zip vs) m x=_
  unfold bindC
  exact lE (i:=i) (List.nodup_cons.mp nd).2 (by simpa using h1) (by simpa using h2) hk
def start (N:List Str) (vs:List V):St:=vs.map some++List.replicate (N.length-vs.length) none
abbrev pv (CX:CXT) (P:Program) (w:World) (K:PySem.W.Frag) (mg:Str→Option Value) (base:Heap) (N:List Str) (qual:Str) (scope:Scope) (f:Addr) (cd:Value) (A:Around) (outer:List Env) (s:Shared) (H:Hp) (E:XK):Cx where
 prog:=P
 w:=w
 K:=K
 mg:=mg
 base:=base
 A:=A.deeper (envOfC qual scope s.heap.objs.size f cd)
 N:=N
 s₀:=s
 H₀:=H
 env:=envOfC qual scope s.heap.objs.size f cd
 outer:=outer
 stack:=envOfC qual scope s.heap.objs.size f cd::outer
 ex:=[]
 calm:=true
 fn:=fun _=>true
 pn:=[]
 xe:=fun e s'=>wpAny (model P w) (A.deeper (envOfC qual scope s.heap.objs.size f cd)) (leaving (envOfC qual scope s.heap.objs.size f cd) e) (fun _ s''=>CX outer H s E e s'') (fun e' s''=>CX outer H s E e' s'') s'
theorem ot {sc:Scope} {n:Nat} {x:Str} (h:sc.names.lookup x=some .cell):∃c,(cellsFrom n sc.names []).lookup x=some c:=by
 have q:=PySem.W.cellsFrom_some sc.names n [] (.inl h)
 exact Option.isSome_iff_exists.mp q
theorem qK {CX:CXT} {P:Program} {w:World} {K:PySem.W.Frag} {mg:Str→Option Value} {base:Heap} {N ps:List Str} {qual:Str} {scope:Scope} {f:Addr} {cd:Value} {A:Around} {outer:List Env} {s s1:Shared} {H:Hp} {E:XK} {us:List Value} {vs:List V}
  (S:FnScope N ps scope) (hd:A.handled=none) (e0:Env0 P w K mg base A outer s H) (hl:vs.length=ps.length) (r:Vals vs us)
  (x:InCallC s s.heap.objs.size (bindL (envOfC qual scope s.heap.objs.size f cd).kindOf (ps.zip us) fun _=>none) (cellsFrom (s.heap.objs.size+1) scope.names []) (bindC (envOfC qual scope s.heap.objs.size f cd).kindOf (ps.zip us) fun _=>none) s1):
  Inv (pv CX P w K mg base N qual scope f cd A outer s H E) [] (start N vs) H s1:=by
 have hpl:ps.length≤N.length:=by have:=congrArg List.length S.pre;rw [List.length_take] at this;omega
 obtain ⟨h1,tk,rfl,hk⟩:=x.done
 have noA:∀b:Addr,b∉(pv CX P w K mg base N qual scope f cd A outer s H E).ex:=fun b z=>absurd (show b∈([]:List Addr) from z) (by simp)
 refine ⟨⟨e0.mod,S.kind,rfl,rfl,Nat.le_refl _,fun y z c h1 h2=>?_,fun y hy=>?_,fun y c _ h=>?_,fun _=>hd,Around.frames_deeper e0.frames,.inr ⟨rfl,rfl⟩,fun b z=>absurd z (noA b),e0.bs,e0.bsz,fun b _ _=>noA b,fun b z=>absurd z (noA b),e0.jA,e0.frf⟩,
  rfl,e0.bare,Un.kept hk,⟨_,x.toInCall.ns,fun i y v h1 h2 h3=>?_⟩,fun y c h=>⟨_,x.cell y c h⟩,e0.hok.fresh (Nat.le_refl _),fun y c h=>?_,fun p hp=>absurd (show p∈([]:List (Addr×Obj)) from hp) (by simp),e0.hok.kept hk,?_⟩
 ·exact name_of_addr x.apart (PySem.mem_of_lookup h1) (PySem.mem_of_lookup h2)
 ·have hy:scope.names.lookup y=some .cell∨scope.names.lookup y=some .free:=hy
  rcases hy with hy | hy
  ·exact ot hy
  ·exact absurd rfl (S.nofree _ (PySem.mem_of_lookup hy))
 ·exact Nat.le_of_lt (x.above y c (PySem.mem_of_lookup h))
 ·have hi:i < vs.length:=by
   unfold start at h2
   by_cases hi:i < vs.length
   ·exact hi
   ·rw [List.getElem?_append_right (by simpa using hi)] at h2
    rw [List.getElem?_replicate] at h2
    split at h2 <;> cases h2
  have ha:vs[i]?=some v:=by
   unfold start at h2
   rw [List.getElem?_append_left (by simpa using hi),List.getElem?_map] at h2
   cases e:vs[i]? with
   | none=>rw [e] at h2;cases h2
   | some a=>rw [e] at h2;cases h2;rfl
  obtain ⟨u,hu,rv⟩:=r.get ha
  have hp:ps[i]?=some y:=by
   rw [←S.pre,List.getElem?_take_of_lt (by omega)];exact h1
  have ndP:ps.Nodup:=by rw [←S.pre];exact S.nd.sublist (List.take_sublist _ _)
  refine ⟨u,rv,?_⟩
  rcases S.par y (List.mem_of_getElem? hp) with k | k
  ·exact .inl ⟨k,lC ndP hp hu k⟩
  ·obtain ⟨c,e⟩:=ot (n:=s.heap.objs.size+1) k
   refine .inr ⟨.inl k,c,e,?_⟩
   have q:=x.cell y c e
   rw [lE ndP hp hu (by show scope.names.lookup y≠_;rw [k];decide)] at q
   exact q
 ·exact e0.hok.fresh (Nat.le_of_lt (x.above y c (PySem.mem_of_lookup h)))
 ·unfold start
  show _=N.length
  rw [List.length_append,List.length_map,List.length_replicate]
  omega
theorem y4 {CX:CXT} {P:Program} {w:World} {K:PySem.W.Frag} {mg:Str→Option Value} {base:Heap} {k:Nat} {f:Addr} {name qual:Str} {params:Arguments} {body:List Stmt} {scope:Scope} {dV kV doc pm cdv ct oc:Value} {an od:Option Addr}
  {osl:Array (Option Value)} {N ps:List Str} {sp:Sp} (lk:K.lookup f=some ⟨oc,od,.func (PySem.W.fnOf name qual params body scope dV kV doc pm an cdv ct),osl⟩) (hcd:PySem.W.codeIn K cdv qual=true) (S:FnScope N ps scope)
  (len:∀vs H Q E,sp vs H Q E→vs.length=ps.length)
  (hbody:∀(A:Around) (outer:List Env) (s:Shared) (H:Hp) (vs:List V) (Q:VK) (E:XK),Room k (A.deeper (envOfC qual scope s.heap.objs.size f cdv))→sp vs H Q E→
   ∃t,PSs (pv CX P w K mg base N qual scope f cdv A outer s H E) body t∧t {nx:=fun _ H'=>Q .non H',rt:=Q} (start N vs) H):
  FnOk P w K mg base CX (k+1) f (PySem.W.fnOf name qual params body scope dV kV doc pm an cdv ct) ps sp:=by
 refine ⟨len,fun A outer s H args us vs Q E hr e0 hb r hsp=>?_⟩
 have hl:=len _ _ _ _ hsp
 have KX:K.In s.heap:=e0.mod.kin.keeps fun b o e=>(e0.bs b o e).1
 have lim:s.heap.NoLimit:=e0.mod.nolimit.keeps fun b o e=>(e0.bs b o e).1
 have hkind:∀y∈ps.zip us,scope.names.lookup y.1=some .local∨(scope.names.lookup y.1=some .cell∧((cellsFrom (s.heap.objs.size+1) scope.names []).lookup y.1).isSome=true):=fun ⟨n,v⟩ hy=>by
  rcases S.par n (List.of_mem_zip hy).1 with q | q
  ·exact .inl q
  ·exact .inr ⟨q,PySem.W.cellsFrom_some _ _ _ (.inl q)⟩
 refine codeAny_call_function hr.depth (KX _ _ lk) rfl S.co S.gen rfl (PySem.W.codeRec_of KX hcd) (hb _ _ _ _ ?_)
 refine wpAny_newFunctionEnv_cells S.kind hkind fun env he s1 x=>?_
 subst he
 refine ⟨lim.keeps x.toInCall.keep,codeAny_func ?_⟩
 obtain ⟨t,ht,hq⟩:=hbody A outer s H vs Q E (hr.deeper _) hsp
 have I:Inv (pv CX P w K mg base N qual scope f cdv A outer s H E) [] (start N vs) H s1:=qK S hr.hd e0 hl r x
 refine wpAny_mono (ht [] s1 (start N vs) H _ I hq) (fun fl s' hs=>?_) fun e s' hs=>hs
 have fin:∀{σ':St} {H':Hp} {v:V} {u:Value},Inv (pv CX P w K mg base N qual scope f cdv A outer s H E) [] σ' H' s'→RelV v u→Q v H'→CE outer P w H s Q u s':=
  fun {σ' H' v u} J rv q=>⟨v,H',J.os,J.bare,J.base,J.hok,rv,q⟩
 cases fl with
 | ret u=>
  obtain ⟨v,σ',H',J,rv,q⟩:=hs
  exact fin J rv q
 | next=>
  obtain ⟨σ',H',J,q⟩:=hs
  exact fin (v:=V.non) (u:=Value.none) J rfl q
 | brk=>
  obtain ⟨_,_,_,q⟩:=hs
  exact False.elim q
 | cont=>
  obtain ⟨_,_,_,q⟩:=hs
  exact False.elim q
end L2
namespace L2
open PySem PySem.Spec PyProof.Rows
section
variable {X:Cx} {x:Str} {p pos:Pos} {e:Expr} {es:List Expr} {t:TA} {id T:String} {r:List V→Hp→VK→Prop}
def tCB (r:List V→Hp→VK→Prop) (t:TA):TE:=fun σ H Q=>t σ H fun vs H1=>r vs H1 Q
theorem sA (hc:dZ X (.builtin id) r) (hg:Gl X x) (hm:X.mg x=none) (hv:bootBuiltins x=some (.builtin id)) (ha:PA X (e::es) t) (hn:x≠"__name__":=by decide) (hdb:(x==("__debug__":Str))=false:=by decide)
  (he:starEach (e::es) X.env=(false,eval e X.env)::starEach es X.env:=by rfl) (hpl:(backTo pos (starEach es X.env)).any (·.1)=false:=by rfl):PE X (.Call (.Name x p) (e::es) [] pos) (tCB r t):=by
 intro pins s σ H Q I h
 refine wpAny_Call_Name_kw (fI I hg hm hv ?_ hn hdb)
 exact PyProof.Rows.callWith_builtin1 (thn (ha pos pins s σ H _ I h) fun us s1 ⟨vs,H1,I1,r1,q1⟩=>hc pins s1 σ H1 vs us Q I1 r1 q1) he hpl
theorem kK (hc:dZ X (.type T) r) (hg:Gl X x) (hm:X.mg x=none) (hv:bootBuiltins x=some (.type T)) (ha:PA X (e::es) t) (hn:x≠"__name__":=by decide) (hdb:(x==("__debug__":Str))=false:=by decide)
  (he:starEach (e::es) X.env=(false,eval e X.env)::starEach es X.env:=by rfl) (hpl:(backTo pos (starEach es X.env)).any (·.1)=false:=by rfl):PE X (.Call (.Name x p) (e::es) [] pos) (tCB r t):=by
 intro pins s σ H Q I h
 refine wpAny_Call_Name_kw (fI I hg hm hv ?_ hn hdb)
 exact PyProof.Rows.callWith_type1 (thn (ha pos pins s σ H _ I h) fun us s1 ⟨vs,H1,I1,r1,q1⟩=>hc pins s1 σ H1 vs us Q I1 r1 q1) he hpl
end
end L2
namespace HT
open PySem PyProof.Rows
section
open PySem.SeqAt
open PySem.AutoSeq1 (wpAny_loadPart')
open PySem.MeetsSeq PySem.MeetsSeq2 PySem.MeetsSeq3
end
section
variable {prog:Program} {w:World} {A:Around} {E:Value→Shared→Prop} {s:Shared}
theorem vj {t b:Addr} {vs ws:List Value} {Q:Value→Shared→Prop} (ht:IsTup s.heap t vs.toArray) (hb:IsTup s.heap b ws.toArray) (hv:vs≠[])
  (h1:ws=[]→Q (.ref t) s) (h2:ws≠[]→Q (.ref s.heap.objs.size) {s with heap:=s.heap.push {cls:=.type "tuple",data:=.seq (vs++ws).toArray}})
  (hsz:vs.length+ws.length≤sizeLine):wpAny (model prog w) A (binaryOp .Add (.ref t) (.ref b)) Q E s:=by
 obtain ⟨⟨cls,dd,data,sl⟩,ho,hc,n,hd⟩:=id ht
 obtain ⟨⟨cls2,dd2,data2,sl2⟩,ho2,hc2,n2,hd2⟩:=id hb
 simp only at hc hd hc2 hd2
 subst hc hd hc2 hd2
 have e:vs.toArray++ws.toArray=(vs++ws).toArray:=by simp
 by_cases hw:ws=[]
 ·exact concat_meets ⟨_,ho,rfl⟩ ⟨_,ho2,rfl⟩ noFill_tuple_add seq_tuple_add PySem.F.slot_tuple_add PySem.F.entry_tuple_add (PySem.F.args_tuple_add_2 _ _)
   (tuple_addW1 t b vs.toArray ws.toArray n n2 dd dd2 sl sl2 (by simpa using hv) (by simp [hw])) ⟨ho,ho2,h1 hw⟩
 ·refine concat_meets ⟨_,ho,rfl⟩ ⟨_,ho2,rfl⟩ noFill_tuple_add seq_tuple_add PySem.F.slot_tuple_add PySem.F.entry_tuple_add (PySem.F.args_tuple_add_2 _ _)
   (tuple_addW2 t b vs.toArray ws.toArray n n2 dd dd2 sl sl2 (by simpa using hv) (by simpa using hw) (by rw [List.size_toArray,List.size_toArray];exact hsz)) ⟨ho,ho2,?_⟩
  rw [e]
  exact h2 hw
def sIx (n d:Nat):Option Int→Nat
 | none=>d
 | some v=>if v < 0 then (v+(n:Int)).toNat else min v.toNat n
theorem rR (n d:Nat):sIx n d none=d:=rfl
theorem uo (n d k:Nat):sIx n d (some (k:Int))=min k n:=by
 show (if (k:Int) < 0 then ((k:Int)+(n:Int)).toNat else min (k:Int).toNat n)=min k n
 rw [if_neg (by omega),Int.toNat_natCast]
theorem vT (n d:Nat) (hd:d≤n) (o:Option Int):sIx n d o≤n:=by
 cases o with
 | none=>exact hd
 | some v=>
  show (if v < 0 then (v+(n:Int)).toNat else min v.toNat n)≤n
  by_cases hv:v < 0
  ·rw [if_pos hv];omega
  ·rw [if_neg hv];exact Nat.min_le_right _ _
theorem p6 (v:Int) (n d:Nat):(if v < 0 then max (v+(n:Int)) 0 else min v (n:Int))=((sIx n d (some v):Nat):Int):=by
 show (if v < 0 then max (v+(n:Int)) 0 else min v (n:Int))=(((if v < 0 then (v+(n:Int)).toNat else min v.toNat n):Nat):Int)
 by_cases hv:v < 0
 ·simp only [if_pos hv];omega
 ·simp only [if_neg hv];omega
theorem pG (lo hi:Option Int) (n:Nat):Builtin.Slice.sliceAdjust lo hi 1 (n:Int)=(((sIx n 0 lo:Nat):Int),((sIx n n hi:Nat):Int)):=by
 have h1:¬((1:Int) < 0):=by omega
 unfold Builtin.Slice.sliceAdjust
 simp only [h1,if_false]
 refine Prod.ext ?_ ?_
 ·cases lo with
  | none=>rfl
  | some v=>exact p6 v n 0
 ·cases hi with
  | none=>rfl
  | some v=>exact p6 v n n
theorem oN (i j:Nat):Builtin.Slice.slicePlaces (i:Int) (j:Int) 1=j-i:=by
 unfold Builtin.Slice.slicePlaces
 have h1:(1:Int) > 0:=by omega
 simp only [h1,if_true,Int.ediv_one]
 split <;> omega
theorem ja {v:Value} {o:Option Int} {Q:Option Int→Shared→Prop} (p:IsPart v o) (h:Q o s):wpAny (model prog w) A (Builtin.Slice.slicePartIndex v) Q E s:=by
 cases p with
 | none=>exact slicePart_none h
 | int i t=>exact slicePart_int h
theorem eC {sl:Addr} {vl vu:Value} {lo hi:Option Int} {n:Nat} {Q:Int×Int×Nat→Shared→Prop} (hs:s.heap.IsSliceOf sl vl vu .none) (pl:IsPart vl lo) (pu:IsPart vu hi)
  (h:Q (((sIx n 0 lo:Nat):Int),1,sIx n n hi-sIx n 0 lo) s):wpAny (model prog w) A (Builtin.Slice.sliceApplied (.ref sl) (pure (n:Int))) Q E s:=by
 obtain ⟨os,hos,hcs,hds⟩:=id hs
 unfold Builtin.Slice.sliceApplied Builtin.Slice.sliceFields
 refine wpAny_bind (wpAny_bind (wpAny_field hos hds (x:=vl) rfl (wpAny_bind (wpAny_field hos hds (x:=vu) rfl (wpAny_bind (wpAny_field hos hds (x:=.none) rfl (wpAny_pure ?_)))))))
 refine wpAny_bind (slicePart_none ?_)
 show wpAny _ _ (if ((1:Int)==0)=true then _ else _) _ _ s
 rw [if_neg (by decide)]
 refine wpAny_bind (ja pl (wpAny_bind (ja pu (wpAny_bind (wpAny_pure ?_)))))
 show wpAny _ _ (match Builtin.Slice.sliceAdjust lo hi 1 (n:Int) with | (lo,hi)=>pure (lo,(1:Int),Builtin.Slice.slicePlaces lo hi 1)) _ _ s
 rw [pG lo hi n]
 show wpAny _ _ (pure (((sIx n 0 lo:Nat):Int),(1:Int),Builtin.Slice.slicePlaces ((sIx n 0 lo:Nat):Int) ((sIx n n hi:Nat):Int) 1)) _ _ s
 rw [oN]
 exact wpAny_pure h
theorem so (xs:Array Value) (i k:Nat):((List.range k).filterMap fun (m:Nat)=>xs[((i:Int)+(m:Int)*1).toNat]?).toArray=((xs.toList.drop i).take k).toArray:=by
 have e:(fun (m:Nat)=>xs[((i:Int)+(m:Int)*1).toNat]?)=fun m=>xs[i+m]?:=by
  funext m
  have:((i:Int)+(m:Int)*1).toNat=i+m:=by omega
  rw [this]
 rw [e]
 have:=pick_run xs i k
 rw [List.filterMap_map] at this
 have e2:((fun x=>xs[x]?)∘fun x=>i+x)=fun m=>xs[i+m]?:=rfl
 rw [e2] at this
 rw [this]
theorem gJ {t sl:Addr} {items:Array Value} {vl vu:Value} {lo hi:Option Int} {Q:Value→Shared→Prop} (ht:IsTup s.heap t items) (hs:s.heap.IsSliceOf sl vl vu .none) (pl:IsPart vl lo) (pu:IsPart vu hi)
  (hw:¬(sIx items.size 0 lo=0∧sIx items.size items.size hi=items.size))
  (h:Q (.ref s.heap.objs.size) {s with heap:=s.heap.push {cls:=.type "tuple",data:=.seq ((items.toList.drop (sIx items.size 0 lo)).take (sIx items.size items.size hi-sIx items.size 0 lo)).toArray}})
  (hsz:items.size≤sizeLine):wpAny (model prog w) A (getItem (.ref t) (.ref sl)) Q E s:=by
 have htake:sizeOk (.seq ((items.toList.drop (sIx items.size 0 lo)).take (sIx items.size items.size hi-sIx items.size 0 lo)).toArray):=by
  show ((items.toList.drop (sIx items.size 0 lo)).take (sIx items.size items.size hi-sIx items.size 0 lo)).toArray.size≤sizeLine
  rw [List.size_toArray,List.length_take,List.length_drop,Array.length_toList]
  omega
 have hj:sIx items.size items.size hi≤items.size:=vT _ _ (Nat.le_refl _) hi
 obtain ⟨os,hos,hcs,hds⟩:=id hs
 have hTs:s.TypeIs (.ref sl) "slice":=⟨os,hos,hcs⟩
 unfold getItem
 try with_reducible refine wpAny_holding ?_
 first | refine wpAny_bind (wpAny_pure ?_) | skip
 refine wpAny_bind (wpAny_sequenceKey ht.typeIs (by decide) ?_)
 refine wpAny_bind (wpAny_callSpecial?_slot (name:=Str.ofString "__getitem__") ht.typeIs PyProof.Rows.slot_tuple_getitem
  (wpAny_call_entry PyProof.Rows.slot_tuple_getitem ht.typeIs entry_tuple_getitem ?_ (args_tuple_getitem _ _)))
 show wpAny _ _ (Builtin.Tuple.tupleItemsOf (.ref t) >>=_) _ _ s
 refine wpAny_bind (tupleItemsOf_ ht ?_)
 refine wpAny_bind (wpAny_typeOf hTs ?_)
 rw [if_pos (by decide)]
 refine wpAny_bind (eC hs pl pu ?_)
 have hno:¬((((sIx items.size 0 lo:Nat):Int)==0&&(1:Int)==1&&(sIx items.size items.size hi-sIx items.size 0 lo)==items.size)=true):=by
  intro q
  rw [Bool.and_eq_true,Bool.and_eq_true] at q
  have q1:((sIx items.size 0 lo:Nat):Int)=0:=eq_of_beq q.1.1
  have q2:sIx items.size items.size hi-sIx items.size 0 lo=items.size:=eq_of_beq q.2
  exact hw ⟨by omega,by omega⟩
 show wpAny _ _ (if (((sIx items.size 0 lo:Nat):Int)==0&&(1:Int)==1&&(sIx items.size items.size hi-sIx items.size 0 lo)==items.size)=true then _ else _) _ _ s
 rw [if_neg hno,so]
 first
  | exact wpAny_bind (m:=Builtin.Tuple.tupleExact _) (wpAny_newObj_type (wpAny_pure ⟨_,rfl,wpAny_pure h⟩) htake)
  | exact wpAny_bind (m:=Builtin.Tuple.tupleExact _) (wpAny_newObj_type (wpAny_bind (wpAny_pure (wpAny_pure ⟨_,rfl,wpAny_pure h⟩))) htake)
  | exact wpAny_bind (wpAny_bind (m:=Builtin.Tuple.tupleExact _) (wpAny_newObj_type (wpAny_pure (wpAny_pure ⟨_,rfl,wpAny_pure h⟩)) htake))
  | exact wpAny_bind (wpAny_bind (m:=Builtin.Tuple.tupleExact _) (wpAny_newObj_type (wpAny_pure ⟨_,rfl,wpAny_pure h⟩) htake))
end
end HT
namespace L2
open PySem PySem.Spec PyProof.Rows
abbrev TO:=St→Hp→(Option Int→Hp→Prop)→Prop
def PO (X:Cx) (e:Option Expr) (t:TO):Prop:=
 ∀(pins:List (Addr×Obj)) (s:Shared) (σ:St) (H:Hp) (Q:Option Int→Hp→Prop),Inv X pins σ H s→t σ H Q→
  wpAny (model X.prog X.w) X.A (evalPart e X.env) (fun u s'=>∃o H',Inv X pins σ H' s'∧IsPart u o∧Q o H') X.xe s
def uc:TO:=fun _ H Q=>Q none H
def yi (t:TE):TO:=fun σ H Q=>t σ H fun x H1=>∃i,x=.int i∧Q (some i) H1
theorem intsAre_of {ns:List Int}:∀{us:List Value},Vals (ns.map V.int) us→IntsAre us ns:=by
 induction ns with
 | nil=>intro us r;rw [List.map_nil] at r;cases r;exact .nil
 | cons n ns ih=>
  intro us r
  rw [List.map_cons] at r
  cases r with
  | cons r1 r2=>
   obtain ⟨t,e⟩:=r1
   subst e
   exact .cons n t (ih r2)
section
variable {X:Cx} {e:Expr} {te:TE} {lo hi:Option Expr} {tl th:TO} {pos p2:Pos}
theorem uK:PO X none uc:=by
 intro pins s σ H Q I h
 rw [evalPart_none]
 exact wpAny_pure ⟨none,H,I,.none,h⟩
theorem uJ (h:PE X e te):PO X (some e) (yi te):=by
 intro pins s σ H Q I hw
 rw [evalPart_some]
 refine thn (h pins s σ H _ I hw) fun u s1 ⟨x,H1,I1,r1,q1⟩=>?_
 obtain ⟨i,rfl,q⟩:=q1
 obtain ⟨t,rfl⟩:=r1
 exact ⟨some i,H1,I1,.int i t,q⟩
def SlR (X:Cx) (r:V→Option Int→Option Int→Hp→VK→Prop):Prop:=
 ∀(pins:List (Addr×Obj)) (s:Shared) (σ:St) (H:Hp) (x:V) (v vl vu:Value) (lo hi:Option Int) (sl:Addr) (Q:VK),Inv X pins σ H s→RelV x v→s.heap.IsSliceOf sl vl vu .none→IsPart vl lo→IsPart vu hi→r x lo hi H Q→
  ∃T id,typeLookup (.type T) "__getitem__"=pure (some (.builtin id))∧s.TypeIs v T∧wpAny (model X.prog X.w) X.A (getItem v (.ref sl)) (EP X pins σ Q) X.xe s
def tSl (r:V→Option Int→Option Int→Hp→VK→Prop) (te:TE) (tl th:TO):TE:=fun σ H Q=>te σ H fun x H1=>tl σ H1 fun l H2=>th σ H2 fun u H3=>r x l u H3 Q
theorem su {r:V→Option Int→Option Int→Hp→VK→Prop} (hr:SlR X r) (he:PE X e te) (hl:PO X lo tl) (hu:PO X hi th):PE X (.Subscript e (.Slice lo hi none p2) pos) (tSl r te tl th):=by
 intro pins s σ H Q I h
 refine Subscript_ (thn (he pins s σ H _ I h) fun v s1 ⟨x,H1,I1,r1,q1⟩=>?_)
 refine wpAny_Slice (thn (hl pins s1 σ H1 _ I1 q1) fun vl s2 ⟨l,H2,I2,pl,q2⟩=>thn (hu pins s2 σ H2 _ I2 q2) fun vu s3 ⟨u,H3,I3,pu,q3⟩=>?_)
 rw [evalPart_none]
 refine wpAny_pure ?_
 have I4:Inv X pins σ H3 {s3 with heap:=s3.heap.push {cls:=.type "slice",data:=.fields #[vl,vu,.none]}}:=I3.kept (t':=s3.toks) fun b ob q=>Heap.get?_push_of_some _ q
 obtain ⟨T,id,hT,ht,hg⟩:=hr pins {s3 with heap:=s3.heap.push {cls:=.type "slice",data:=.fields #[vl,vu,.none]}} σ H3 x v vl vu l u s3.heap.objs.size Q I4 r1 (Heap.IsSliceOf.new ..) pl pu q3
 show wpAny (model X.prog X.w) X.A (subscriptTail e (.Slice lo hi none p2) v (.ref s3.heap.objs.size)) (EP X pins σ Q) X.xe {s3 with heap:=s3.heap.push {cls:=.type "slice",data:=.fields #[vl,vu,.none]}}
 exact tail_any (ops:=[.ref s3.heap.objs.size,v]) ht hT hg (by with_unfolding_all rfl)
def jF (xs:List V) (lo hi:Option Int):List V:=(xs.drop (HT.sIx xs.length 0 lo)).take (HT.sIx xs.length xs.length hi-HT.sIx xs.length 0 lo)
theorem iH (xs:List V) (lo hi:Option Int):(jF xs lo hi).length≤xs.length:=by
 unfold jF
 rw [List.length_take,List.length_drop]
 omega
def zI (K:PySem.W.Frag):V→Option Int→Option Int→Hp→VK→Prop:=fun x lo hi H Q=>∃a xs,x=.ref a∧SqT K H a xs∧
 ¬(HT.sIx xs.length 0 lo=0∧HT.sIx xs.length xs.length hi=xs.length)∧∀p,H p=none→Q (.ref p) (upd H p (.tup (jF xs lo hi)))
theorem vM:SlR X (zI X.K):=by
 intro pins s σ H x v vl vu lo hi sl Q I rx hs pl pu h
 obtain ⟨a,xs,rfl,hx,hw,q⟩:=h
 cases rx
 obtain ⟨its,r,ht,hz⟩:=I.tuple hx
 have hlen:its.toArray.size=xs.length:=by rw [List.size_toArray];exact r.length.symm
 refine ⟨"tuple",_,PyProof.Rows.slot_tuple_getitem.lookup,ht.typeIs,?_⟩
 refine HT.gJ ht hs pl pu (by rw [hlen];exact hw) ?_ (by rw [hlen];exact hz)
 rw [hlen]
 refine ⟨.ref s.heap.objs.size,_,I.laid (t':=s.toks) (o:=.tup (jF xs lo hi)) (fun b ob q=>Heap.get?_push_of_some _ q) (Nat.le_refl _) ?_,rfl,q _ (I.hok.fresh (Nat.le_refl _))⟩
 exact ⟨Nat.le_trans (iH xs lo hi) hz,_,(r.drop (HT.sIx xs.length 0 lo)).take (HT.sIx xs.length xs.length hi-HT.sIx xs.length 0 lo),nv.new _ _⟩
def yM (K:PySem.W.Frag):R2:=fun x y H Q=>∃a b xs ys,x=.ref a∧y=.ref b∧SqT K H a xs∧SqT K H b ys∧xs≠[]∧xs.length+ys.length≤sizeLine∧
 (ys=[]→Q (.ref a) H)∧(ys≠[]→∀p,H p=none→Q (.ref p) (upd H p (.tup (xs++ys))))
theorem Vals.iV {xs:List V} {us:List Value} (r:Vals xs us):us=[]↔xs=[]:=by
 cases r with
 | nil=>simp
 | cons _ _=>simp
theorem uV:OpR X (binaryOp .Add) (yM X.K):=by
 intro pins s σ H x y v u Q I rx ry h
 obtain ⟨a,b,xs,ys,rfl,rfl,ha,hb,hx,hz,q1,q2⟩:=h
 cases rx
 cases ry
 obtain ⟨its,r1,p1,_⟩:=I.tuple ha
 obtain ⟨its2,r2,p2,_⟩:=I.tuple hb
 refine HT.vj p1 p2 (fun z=>hx (r1.iV.mp z)) (fun z=>⟨.ref a,H,I,rfl,q1 (r2.iV.mp z)⟩) (fun z=>?_) (by rw [←r1.length,←r2.length];exact hz)
 refine ⟨.ref s.heap.objs.size,_,I.laid (t':=s.toks) (o:=.tup (xs++ys)) (fun b ob q=>Heap.get?_push_of_some _ q) (Nat.le_refl _) ?_,rfl,q2 (fun w=>z (r2.iV.mpr w)) _ (I.hok.fresh (Nat.le_refl _))⟩
 exact ⟨by rw [List.length_append];exact hz,_,r1.append r2,nv.new _ _⟩
end
end L2
namespace L2
open PySem PySem.Spec PyProof.Rows
def ixN (n:Nat) (i:Int):Option Nat:=if 0≤i then (if i < n then some i.toNat else none) else if -(n:Int)≤i then some (i+n).toNat else none
def atI {α:Type} (xs:List α) (i:Int):Option α:=(ixN xs.length i).bind fun j=>xs[j]?
theorem pW {n:Nat} {i:Int} {j:Nat} (h:ixN n i=some j):seqIndex? i n=some j∧j < n∧-(n:Int)≤i∧i < n:=by
 unfold ixN at h
 by_cases h0:0≤i
 ·rw [if_pos h0] at h
  by_cases h1:i < n
  ·rw [if_pos h1] at h
   have e:i.toNat=j:=Option.some.inj h
   exact ⟨by rw [seqIndex_of h0 h1,e],by omega,by omega,h1⟩
  ·rw [if_neg h1] at h;cases h
 ·rw [if_neg h0] at h
  by_cases h1:-(n:Int)≤i
  ·rw [if_pos h1] at h
   have e:(i+n).toNat=j:=Option.some.inj h
   exact ⟨by rw [seqIndex_neg (by omega) h1,e],by omega,h1,by omega⟩
  ·rw [if_neg h1] at h;cases h
theorem iZ {α:Type} {xs:List α} {i:Int} {v:α} (h:atI xs i=some v):∃j,seqIndex? i xs.length=some j∧xs[j]?=some v∧j < xs.length∧-(xs.length:Int)≤i∧i < xs.length:=by
 unfold atI at h
 cases e:ixN xs.length i with
 | none=>rw [e] at h;cases h
 | some j=>
  rw [e] at h
  obtain ⟨h1,h2,h3,h4⟩:=pW e
  exact ⟨j,h1,h,h2,h3,h4⟩
theorem nu {α:Type} {xs:List α} {j:Nat} {v:α} (h:xs[j]?=some v):atI xs (j:Int)=some v:=by
 have hj:j < xs.length:=(List.getElem?_eq_some_iff.mp h).1
 have e:ixN xs.length (j:Int)=some j:=by
  unfold ixN
  rw [if_pos (by omega),if_pos (by omega)];simp
 unfold atI;rw [e];exact h
theorem tZ {α:Type} (xs:List α) (v:α):atI (xs++[v]) (-1)=some v:=by
 have hl:(xs++[v]).length=xs.length+1:=by simp
 have e:ixN (xs++[v]).length (-1)=some xs.length:=by
  unfold ixN
  rw [hl,if_neg (by decide),if_pos (by omega)]
  congr 1
  omega
 unfold atI
 rw [e]
 show (xs++[v])[xs.length]?=some v
 simp
def ny (b:Expr):Prop:=∀o i,subscripted b false o i=operate [o,i] (getItem o i)
def IxR (X:Cx) (r:R2):Prop:=
 ∀(value slice:Expr) (pins:List (Addr×Obj)) (s:Shared) (σ:St) (H:Hp) (x y:V) (v u:Value) (Q:VK),Inv X pins σ H s→RelV x v→RelV y u→r x y H Q→
  subscripted slice false v u=operate [v,u] (getItem v u)→wpAny (model X.prog X.w) X.A (subscriptTail value slice v u) (EP X pins σ Q) X.xe s
def MtR (X:Cx) (id:String) (r:V→List V→Hp→VK→Prop):Prop:=
 ∀(pins:List (Addr×Obj)) (s:Shared) (σ:St) (H:Hp) (x:V) (xs:List V) (v:Value) (us:List Value) (Q:VK),Inv X pins σ H s→RelV x v→Vals xs us→r x xs H Q→
  wpAny (model X.prog X.w) X.A (call (.builtin id) (v::us)) (EP X pins σ Q) X.xe s
section
variable {X:Cx} {a b:Expr} {ta tb:TE} {pos:Pos}
theorem yQ {r:R2} (hr:IxR X r) (ha:PE X a ta) (hb:PE X b tb) (hs:ny b):PE X (.Subscript a b pos) (tOp r ta tb):=by
 intro pins s σ H Q I h
 exact Subscript_ (xR ha hb I h fun v u s2 x y H2 I2 rx ry q=>hr a b pins s2 σ H2 x y v u Q I2 rx ry q (hs _ _))
def zR (K:PySem.W.Frag):R2:=fun x y H Q=>∃p xs i v,x=.ref p∧y=.int i∧SqL K H p xs∧atI xs i=some v∧Q v H
def zP (K:PySem.W.Frag):R2:=fun x y H Q=>∃p xs i v,x=.ref p∧y=.int i∧SqT K H p xs∧atI xs i=some v∧Q v H
def zQ:R2:=fun x y H Q=>∃z i c,x=.str z∧y=.int i∧z.length≤sizeLine∧atI z.cps.toList i=some c∧Q (.str ⟨#[c]⟩) H
theorem u3:IxR X (zR X.K):=by
 intro value slice pins s σ H x y v u Q I rx ry h hs
 obtain ⟨p,xs,i,z,rfl,rfl,hq,he,q⟩:=h
 cases rx
 obtain ⟨t,rfl⟩:=ry
 obtain ⟨its,r,pl,hz⟩:=I.list hq
 obtain ⟨j,h1,h2,h3,h4,h5⟩:=iZ he
 obtain ⟨w,ew,rw'⟩:=r.get h2
 have hl:=r.length
 have hn:=gu
 have fin:EP X pins σ Q w s:=⟨z,H,I,rw',q⟩
 by_cases h0:0≤i
 ·have hj:i.toNat=j:=by
   rw [seqIndex_of h0 h5] at h1
   exact Option.some.inj h1
  exact item_listR pl.isList h0 (by omega) (by rw [hj];simpa using ew) fin hs
 ·have hj:(i+(its.toArray.size:Int)).toNat=j:=by
   rw [seqIndex_neg (by omega) h4] at h1
   rw [List.size_toArray,←hl]
   exact Option.some.inj h1
  exact subscriptTail_builtinR (x:=w) pl.isList.typeIs slot_list_getitem.lookup
   (wpAny_getItem_list_neg (Q:=fun r s'=>r=w∧EP X pins σ Q r s') pl.isList (by omega) (by rw [List.size_toArray] <;> omega) (by omega) (by rw [hj];simpa using ew) ⟨rfl,fin⟩) hs
theorem xx:IxR X (zP X.K):=by
 intro value slice pins s σ H x y v u Q I rx ry h hs
 obtain ⟨p,xs,i,z,rfl,rfl,hq,he,q⟩:=h
 cases rx
 obtain ⟨t,rfl⟩:=ry
 obtain ⟨its,r,pl,hz⟩:=I.tuple hq
 obtain ⟨j,h1,h2,h3,h4,h5⟩:=iZ he
 obtain ⟨w,ew,rw'⟩:=r.get h2
 have hl:=r.length
 have hn:=gu
 have fin:EP X pins σ Q w s:=⟨z,H,I,rw',q⟩
 exact subscriptTail_builtinR (x:=w) pl.typeIs slot_tuple_getitem.lookup
  (getItem_tuple (j:=j) (Q:=fun r s'=>r=w∧EP X pins σ Q r s') pl (by omega) (by omega) (by rw [List.size_toArray,←hl];exact h1) (by simpa using ew) ⟨rfl,fin⟩) hs
theorem xy:IxR X zQ:=by
 intro value slice pins s σ H x y v u Q I rx ry h hs
 obtain ⟨z,i,c,rfl,rfl,hz,he,q⟩:=h
 obtain ⟨t,rfl⟩:=rx
 obtain ⟨t',rfl⟩:=ry
 obtain ⟨j,h1,h2,h3,h4,h5⟩:=iZ he
 have hl:z.cps.toList.length=z.length:=by simp [Str.length]
 rw [hl] at h1 h4 h5
 have hn:=gu
 exact tail_any (typeIs_str s z t) slot_str_getitem.lookup (getItem_str (c:=c) (by
  have e1:decide (i < -(2^63:Int))=false:=decide_eq_false (by omega)
  have e2:decide (i≥2^63)=false:=decide_eq_false (by omega)
  rw [e1,e2,Bool.or_false]) (by rw [h1];simpa using h2) ⟨.str ⟨#[c]⟩,H,I.tok _,⟨_,rfl⟩,q⟩) hs
theorem oW (its:List Value) (n j:Nat) (u:Value):Obj.mapSeq (·.setIfInBounds j u) {cls:=.type "list",data:=.seq its.toArray n}={cls:=.type "list",data:=.seq (its.set j u).toArray n}:=by
 simp [Obj.mapSeq]
theorem Inv.lst {pins:List (Addr×Obj)} {σ:St} {H:Hp} {s:Shared} {p:Addr} {xs:List V} (I:Inv X pins σ H s) (h:H p=some (.lst xs)):
  ∃(its:List Value) (n:Nat),Vals xs its∧s.heap.get? p=some {cls:=.type "list",data:=.seq its.toArray n}∧xs.length≤sizeLine:=by
 obtain ⟨z,its,n,r,e⟩:=I.hok p _ h
 exact ⟨its,n,r,e,z⟩
theorem Inv.xp {pins:List (Addr×Obj)} {σ:St} {H:Hp} {s:Shared} {p:Addr} {xs ys:List V} {its its':List Value} {n n':Nat} {f:Obj→Obj} (I:Inv X pins σ H s) (h:H p=some (.lst xs))
  (ho:s.heap.get? p=some {cls:=.type "list",data:=.seq its.toArray n}) (hf:f {cls:=.type "list",data:=.seq its.toArray n}={cls:=.type "list",data:=.seq its'.toArray n'}) (r:Vals ys its') (hz:ys.length≤sizeLine) (t:Nat):
  Inv X pins σ (upd H p (.lst ys)) {s with heap:=s.heap.update p f,toks:=t}:=by
 have e:(s.heap.update p f).get? p=some {cls:=.type "list",data:=.seq its'.toArray n'}:=by
  rw [Heap.get?_update_self f ho (by rw [hf] <;> rfl),hf]
 refine I.write (x:=p) (e:=p) (by rw [h];trivial) (.inl rfl) (fun b u hb q=>(Heap.get?_update_other _ _ (Ne.symm hb)).trans q) ⟨_,e⟩ ?_
 exact ⟨hz,its',n',r,e⟩
def yL:V→V→V→Hp→(Hp→Prop)→Prop:=fun o i v H Q=>∃p xs k j,o=.ref p∧i=.int k∧H p=some (.lst xs)∧ixN xs.length k=some j∧Q (upd H p (.lst (xs.set j v)))
theorem set_list:xY X yL:=by
 intro pins s σ H o i v ov iv u Q I ro ri rv h
 obtain ⟨p,xs,k,j,rfl,rfl,hp,hj,q⟩:=h
 cases ro
 obtain ⟨t,rfl⟩:=ri
 obtain ⟨its,n,r,ho,hz⟩:=I.lst hp
 obtain ⟨h1,h2,h3,h4⟩:=pW hj
 have hl:=r.length
 have hn:=gu
 have I':Inv X pins σ (upd H p (.lst (xs.set j v))) {s with heap:=s.heap.update p (Obj.mapSeq (·.setIfInBounds j u))}:=
  I.xp hp ho (oW its n j u) (r.set rv j) (by rw [List.length_set];exact hz) s.toks
 by_cases h0:0≤k
 ·have hk:k.toNat=j:=by
   rw [seqIndex_of h0 h4] at h1
   exact Option.some.inj h1
  exact PySem.W.ki_setAt ho h0 (by omega) (by rw [List.size_toArray,←hl];exact h4) (by rw [hk];exact ⟨_,I',q⟩)
 ·have hk:(k+(its.toArray.size:Int)).toNat=j:=by
   rw [seqIndex_neg (by omega) h3] at h1
   rw [List.size_toArray,←hl]
   exact Option.some.inj h1
  exact PySem.W.ki_setBack ho (by omega) (by rw [List.size_toArray,←hl];exact h3) (by omega) (by rw [hk];exact ⟨_,I',q⟩)
theorem lN (lo hi:Option Int) (n:Nat):(sliceBounds lo hi none n).1=((HT.sIx n 0 lo:Nat):Int)∧(sliceBounds lo hi none n).2.1=((HT.sIx n n hi:Nat):Int)∧(sliceBounds lo hi none n).2.2=1:=by
 refine ⟨?_,?_,rfl⟩
 ·cases lo with
  | none=>simp [sliceBounds,HT.sIx]
  | some i=>
   simp only [sliceBounds,HT.sIx,Option.getD_none,show (1:Int) > 0 by decide,if_true]
   by_cases h:i < 0
   ·simp only [h,if_true] <;> omega
   ·simp only [h,if_false] <;> omega
 ·cases hi with
  | none=>simp [sliceBounds,HT.sIx]
  | some i=>
   simp only [sliceBounds,HT.sIx,Option.getD_none,show (1:Int) > 0 by decide,if_true]
   by_cases h:i < 0
   ·simp only [h,if_true] <;> omega
   ·simp only [h,if_false] <;> omega
theorem jU (its:List Value) (lo hi:Option Int):slicePick its.toArray lo hi none=((its.drop (HT.sIx its.length 0 lo)).take (HT.sIx its.length its.length hi-HT.sIx its.length 0 lo)).toArray:=by
 obtain ⟨h1,h2,h3⟩:=lN lo hi its.toArray.size
 unfold slicePick
 rw [h1,h2,h3]
 simp only [sliceRange_one,pick_run,List.size_toArray] <;> rfl
def zK (K:PySem.W.Frag):V→Option Int→Option Int→Hp→VK→Prop:=fun x lo hi H Q=>∃a xs,x=.ref a∧SqL K H a xs∧∀p,H p=none→Q (.ref p) (upd H p (.lst (jF xs lo hi)))
theorem uf:SlR X (zK X.K):=by
 intro pins s σ H x v vl vu lo hi sl Q I rx hs pl pu h
 obtain ⟨a,xs,rfl,hx,q⟩:=h
 cases rx
 obtain ⟨its,r,ht,hz⟩:=I.list hx
 have hlen:=r.length
 refine ⟨"list",_,slot_list_getitem.lookup,ht.isList.typeIs,?_⟩
 refine wpAny_getItem_list_slice ht.isList hs pl pu .none (by simp) ?_ (by rw [List.size_toArray] <;> omega)
 rw [jU,←hlen]
 refine ⟨.ref s.heap.objs.size,_,I.laid (t':=s.toks) (o:=.lst (jF xs lo hi)) (fun b ob q=>Heap.get?_push_of_some _ q) (Nat.le_refl _) ?_,rfl,q _ (I.hok.fresh (Nat.le_refl _))⟩
 exact ⟨Nat.le_trans (iH xs lo hi) hz,_,0,(r.drop (HT.sIx xs.length 0 lo)).take (HT.sIx xs.length xs.length hi-HT.sIx xs.length 0 lo),Heap.get?_push_size _ rfl⟩
theorem mZ:dZ X (.builtin "len") (fun xs H Q=>∃p ys,xs=[.ref p]∧(SqL X.K H p ys∨SqT X.K H p ys)∧Q (.int ys.length) H):=by
 intro pins s σ H xs us Q I r h
 obtain ⟨p,ys,rfl,hq,q⟩:=h
 obtain ⟨u,rfl,rx⟩:=vals1 r
 cases rx
 have hn:=gu
 rcases hq with hq | hq
 ·obtain ⟨its,r',pl,hz⟩:=I.list hq
  have hlen:=r'.length
  exact Calls.call_len_list pl.isList (by simp only [List.size_toArray] <;> omega) ⟨.int ys.length,H,I.tok _,⟨s.toks+1,by rw [List.size_toArray,hlen]⟩,q⟩
 ·obtain ⟨its,r',pl,hz⟩:=I.tuple hq
  have hlen:=r'.length
  exact len_tuple pl (by simp only [List.size_toArray] <;> omega) ⟨.int ys.length,H,I.tok _,⟨s.toks+1,by rw [List.size_toArray,hlen]⟩,q⟩
theorem mY:dZ X (.builtin "len") (fun xs H Q=>∃z,xs=[.str z]∧z.length≤sizeLine∧Q (.int z.length) H):=by
 intro pins s σ H xs us Q I r h
 obtain ⟨z,rfl,hz,q⟩:=h
 obtain ⟨u,rfl,t,rfl⟩:=vals1 r
 have hn:=gu
 exact len_str (by omega) ⟨.int z.length,H,I.tok _,⟨_,rfl⟩,q⟩
theorem mX:dZ X (.type "list") (fun xs H Q=>∃p ys,xs=[.ref p]∧(SqL X.K H p ys∨SqT X.K H p ys)∧∀l,H l=none→Q (.ref l) (upd H l (.lst ys))):=by
 intro pins s σ H xs us Q I r h
 obtain ⟨p,ys,rfl,hq,q⟩:=h
 obtain ⟨u,rfl,rx⟩:=vals1 r
 cases rx
 have fin:∀(its:List Value),Vals ys its→ys.length≤sizeLine→∀(h':Heap) (c':Nat),(∀b o',s.heap.get? b=some o'→h'.get? b=some o')→
   h'.get? s.heap.objs.size=some {cls:=.type "list",dict:=none,data:=.seq its.toArray c',slots:=#[]}→EP X pins σ Q (.ref s.heap.objs.size) {s with heap:=h'}:=fun its r' hz h' c' kp e=>
  ⟨.ref s.heap.objs.size,_,I.laid (t':=s.toks) kp (Nat.le_refl _) (show bZ X.prog X.w _ h' _ (.lst ys) from ⟨hz,its,c',r',e⟩),rfl,q _ (I.hok.fresh (Nat.le_refl _))⟩
 rcases hq with hq | hq
 ·obtain ⟨its,r',pl,hz⟩:=I.list hq
  have hlen:=r'.length
  obtain ⟨o,ho,hc,n,hd⟩:=pl.isList
  exact call_list_seq p (.inl rfl) ho hc hd (fun h' c' kp e=>fin its r' hz h' c' kp e) (by simp only [List.size_toArray] <;> omega)
 ·obtain ⟨its,r',pl,hz⟩:=I.tuple hq
  have hlen:=r'.length
  obtain ⟨o,ho,hc,n,hd⟩:=pl
  exact call_list_seq p (.inr rfl) ho hc hd (fun h' c' kp e=>fin its r' hz h' c' kp e) (by simp only [List.size_toArray] <;> omega)
theorem kj:dZ X (.type "tuple") (fun xs H Q=>∃p ys,xs=[.ref p]∧((SqL X.K H p ys∧∀l,H l=none→Q (.ref l) (upd H l (.tup ys)))∨(SqT X.K H p ys∧Q (.ref p) H))):=by
 intro pins s σ H xs us Q I r h
 obtain ⟨p,ys,rfl,h⟩:=h
 obtain ⟨u,rfl,rx⟩:=vals1 r
 cases rx
 rcases h with ⟨hq,q⟩ | ⟨hq,q⟩
 ·obtain ⟨its,r',pl,hz⟩:=I.list hq
  have hlen:=r'.length
  refine call_tuple_list pl.isList (fun h' kp=>?_) (by simp only [List.size_toArray] <;> omega)
  have I1:Inv X pins σ H {s with heap:=h'}:=I.kept (t':=s.toks) kp
  have I2:Inv X pins σ (upd H h'.objs.size (.tup ys)) {s with heap:=h'.push {cls:=.type "tuple",data:=.seq its.toArray}}:=
   I1.laid (t':=s.toks) (fun b o e=>Heap.get?_push_of_some _ e) (Nat.le_refl _) (show bZ X.prog X.w _ _ _ (.tup ys) from ⟨hz,its,r',nv.new _ _⟩)
  exact ⟨.ref h'.objs.size,_,I2,rfl,q _ (I1.hok.fresh (Nat.le_refl _))⟩
 ·obtain ⟨its,r',pl,hz⟩:=I.tuple hq
  exact call_tuple_same pl ⟨.ref p,H,I,rfl,q⟩
def tyV (K:PySem.W.Frag) (T:String) (x:V) (H:Hp):Prop:=match x with
 | .str _=>T="str"
 | .int _=>T="int"
 | .ref p=>(T="list"∧∃xs,SqL K H p xs)∨(T="tuple"∧∃o,K.lookup p=some o∧o.cls=.type "tuple"∧o.dict=none)∨
   (T="dict"∧((∃kvs,H p=some (.dK kvs))∨∃kvs,H p=some (.dT kvs)))∨(T="set"∧∃S n,H p=some (.set S n))
 | _=>False
theorem rm {pins:List (Addr×Obj)} {σ:St} {H:Hp} {s:Shared} {T:String} {x:V} {v:Value} (I:Inv X pins σ H s) (r:RelV x v) (ty:tyV X.K T x H):
  s.TypeIs v T∧∀a,v=.ref a→∃ob,s.heap.get? a=some ob∧ob.dict=none:=by
 cases x with
 | str z=>
  obtain ⟨t,rfl⟩:=r
  cases (show T="str" from ty)
  exact ⟨typeIs_str s z t,fun _ e=>nomatch e⟩
 | int i=>
  obtain ⟨t,rfl⟩:=r
  cases (show T="int" from ty)
  exact ⟨typeIs_int s i t,fun _ e=>nomatch e⟩
 | ref p=>
  cases r
  rcases ty with ⟨rfl,xs,hq⟩ | ⟨rfl,o,hk,hc,hd⟩ | ⟨rfl,hk⟩ | ⟨rfl,S,n,hk⟩
  ·obtain ⟨its,_,pl,_⟩:=I.list hq
   refine ⟨pl.isList.typeIs,fun a e=>?_⟩
   cases e
   obtain ⟨o,n,e,c,hd,_⟩:=pl
   exact ⟨o,e,hd⟩
  ·refine ⟨⟨o,I.kIn p o hk,hc⟩,fun a e=>?_⟩
   cases e
   exact ⟨o,I.kIn _ o hk,hd⟩
  ·have z:∃o,s.heap.get? p=some o∧o.ExactDict:=by
    rcases hk with ⟨kvs,hk⟩ | ⟨kvs,hk⟩
    ·obtain ⟨_,_,_,_,o,_,_,e,ex,_⟩:=I.hok p _ hk
     exact ⟨o,e,ex⟩
    ·obtain ⟨_,_,_,_,o,_,_,e,ex,_⟩:=I.hok p _ hk
     exact ⟨o,e,ex⟩
   obtain ⟨o,e,ex⟩:=z
   refine ⟨⟨o,e,ex.1⟩,fun a e2=>?_⟩
   cases e2
   exact ⟨o,e,ex.2.1⟩
  ·obtain ⟨o,_,_,_,e,ex,_⟩:=I.hok p _ hk
   refine ⟨⟨o,e,ex.1⟩,fun a e2=>?_⟩
   cases e2
   exact ⟨o,e,ex.2.1⟩
 | _=>exact False.elim ty
def zt (K:PySem.W.Frag) (T:String) (r:V→List V→Hp→VK→Prop) (to:TE):TE:=fun σ H Q=>to σ H fun x H1=>tyV K T x H1∧r x [] H1 Q
def tBM (K:PySem.W.Frag) (T:String) (r:V→List V→Hp→VK→Prop) (to:TE) (t:TA):TE:=fun σ H Q=>to σ H fun x H1=>tyV K T x H1∧t σ H1 fun xs H2=>r x xs H2 Q
variable {o e:Expr} {es:List Expr} {to:TE} {t:TA} {name:Str} {apos cpos:Pos} {T id:String} {r:V→List V→Hp→VK→Prop}
theorem wY (pa:PlainAttrs T) (slot:Slot T name id) (hty:typeOf (.builtin id)=pure (.type "method_descriptor")) (hm:MtR X id r) (ho:PE X o to)
  (hbase:attributeBase o name X.env (eval o X.env)=eval o X.env:=by rfl) (hline:(apos.endLine==cpos.line)=true:=by rfl):PE X (.Call (.Attribute o name apos) [] [] cpos) (zt X.K T r to):=by
 intro pins s σ H Q I h
 refine wpAny_Call_method0_late hbase hline (thn (ho pins s σ H _ I h) fun v s1 ⟨x,H1,I1,r1,ty,q1⟩=>?_)
 obtain ⟨h1,h2⟩:=rm I1 r1 ty
 exact ⟨T,id,pa,slot,hty,h1,h2,Calls.callWith_builtin rfl (PySem.evalArgs_none (hm pins s1 σ H1 x [] v [] Q I1 r1 .nil q1))⟩
theorem yR (pa:PlainAttrs T) (slot:Slot T name id) (hty:typeOf (.builtin id)=pure (.type "method_descriptor")) (hm:MtR X id r) (ho:PE X o to) (ha:PA X (e::es) t)
  (hbase:attributeBase o name X.env (eval o X.env)=eval o X.env:=by rfl)
  (hfew:((backTo cpos (starEach (e::es) X.env)).all (fun x=>!x.1)&&(backToKw cpos (keywordEach [] X.env)).all (fun x=>x.1.isSome)
   &&decide ((e::es).length+([]:List Keyword).length+(if ([]:List Keyword).isEmpty then 0 else 1) < 30))=true:=by rfl)
  (hline:(apos.endLine==cpos.line)=true:=by rfl) (hs:starEach (e::es) X.env=(false,eval e X.env)::starEach es X.env:=by rfl) (hplain:(backTo cpos (starEach es X.env)).any (·.1)=false:=by rfl):
  PE X (.Call (.Attribute o name apos) (e::es) [] cpos) (tBM X.K T r to t):=by
 intro pins s σ H Q I h
 refine wpAny_Call_method_late hbase hfew hline rfl (thn (ho pins s σ H _ I h) fun v s1 ⟨x,H1,I1,r1,ty,q1⟩=>?_)
 obtain ⟨h1,h2⟩:=rm I1 r1 ty
 refine ⟨T,id,pa,slot,hty,h1,h2,?_⟩
 have hA:=ha cpos pins s1 σ H1 _ I1 q1
 rw [hs] at hA ⊢
 refine Calls.callWith_builtin (by show (false||(backTo cpos (starEach es X.env)).any (·.1))=false;rw [hplain] <;> rfl) (Calls.evalArgs_plain ?_)
 exact thn hA fun us s2 ⟨vs,H2,I2,r2,q2⟩=>hm pins s2 σ H2 x vs v us Q I2 r1 r2 q2
end
end L2
namespace L2
open PySem PySem.Spec PyProof.Rows
def MtM (X:Cx) (id:String) (r:V→List V→Hp→VK→Prop):Prop:=
 ∀(pins:List (Addr×Obj)) (s:Shared) (σ:St) (H:Hp) (x:V) (xs:List V) (v:Value) (us:List Value) (Q:VK),Inv X pins σ H s→RelV x v→Vals xs us→r x xs H Q→
  wpAny (model X.prog X.w) X.A (call (.builtin id) (v::us)) (EP X pins σ Q) X.xe s
theorem Vals.one:∀{x:V} {us:List Value},Vals [x] us→∃u,us=[u]∧RelV x u
 | _,_,.cons r .nil=>⟨_,rfl,r⟩
theorem Vals.two:∀{x y:V} {us:List Value},Vals [x,y] us→∃u v,us=[u,v]∧RelV x u∧RelV y v
 | _,_,_,.cons r (.cons q .nil)=>⟨_,_,rfl,r,q⟩
theorem Vals.zero:∀{us:List Value},Vals [] us→us=[]
 | _,.nil=>rfl
theorem Vals.dropLast {xs:List V} {us:List Value} (h:Vals xs us):Vals xs.dropLast us.dropLast:=by
 induction h with
 | nil=>exact .nil
 | cons r t ih=>
  cases t with
  | nil=>exact .nil
  | cons q t'=>exact .cons r ih
theorem Vals.rep {xs:List V} {us:List Value} (h:Vals xs us):∀k:Nat,Vals (List.replicate k xs).flatten (List.replicate k us).flatten
 | 0=>.nil
 | k+1=>by
  rw [List.replicate_succ,List.replicate_succ,List.flatten_cons,List.flatten_cons]
  exact Vals.append h (Vals.rep h k)
theorem pe {α:Type} (l:List α):l.eraseIdx (l.length-1)=l.dropLast:=by
 induction l with
 | nil=>rfl
 | cons a r ih=>
  cases r with
  | nil=>rfl
  | cons b r=>
   have e:(a::b::r).length-1=((b::r).length-1)+1:=by
    have h1:(a::b::r).length=r.length+2:=rfl
    have h2:(b::r).length=r.length+1:=rfl
    omega
   rw [e,List.eraseIdx_cons_succ,ih]
   all_goals rfl
theorem foldl_rep (its:List Value):∀(k:Nat) (acc:List Value),
  List.foldl (fun x1 x2=>x1++x2) acc.toArray (List.replicate k its.toArray)=(acc++(List.replicate k its).flatten).toArray
 | 0,acc=>by simp
 | k+1,acc=>by
  have e:acc.toArray++its.toArray=(acc++its).toArray:=by simp
  have e2:(acc++its)++(List.replicate k its).flatten=acc++(List.replicate (k+1) its).flatten:=by
   rw [List.replicate_succ,List.flatten_cons,List.append_assoc]
  rw [←e2,←foldl_rep its k (acc++its),←e,List.replicate_succ,List.foldl_cons]
section
variable {X:Cx} {pins:List (Addr×Obj)} {σ:St} {H:Hp} {s:Shared} {l b:Addr} {xs ys zs:List V}
theorem Inv.xq {its its':List Value} {n:Nat} {f:Array Value→Array Value} {t':Nat} (I:Inv X pins σ H s) (hH:H l=some (.lst xs))
  (e:s.heap.get? l=some {cls:=.type "list",data:=.seq its.toArray n}) (hf:f its.toArray=its'.toArray) (hv:Vals ys its') (hz:ys.length≤sizeLine):
  Inv X pins σ (upd H l (.lst ys)) {s with heap:=s.heap.update l (Obj.mapSeq f),toks:=t'}:=by
 have q:=PySem.IsL.update e f
 rw [hf] at q
 refine I.write (x:=l) (e:=l) (by rw [hH];exact trivial) (.inl rfl) (fun b' u hb hu=>(Heap.get?_update_other s.heap (Obj.mapSeq f) (Ne.symm hb)).trans hu) ⟨_,q⟩ ?_
 exact ⟨hz,its',_,hv,q⟩
theorem Inv.xr {its:List Value} {t':Nat} (I:Inv X pins σ H s) (hv:Vals ys its) (hz:ys.length≤sizeLine):
  Inv X pins σ (upd H s.heap.objs.size (.lst ys)) {s with heap:=s.heap.push {cls:=.type "list",data:=.seq its.toArray},toks:=t'}:=
 I.laid (fun _ _ q=>Heap.get?_push_of_some _ q) (Nat.le_refl _) ⟨hz,its,0,hv,Heap.get?_push_size _ rfl⟩
theorem Inv.fresh (I:Inv X pins σ H s):H s.heap.objs.size=none:=I.hok.fresh (Nat.le_refl _)
theorem Inv.oX (I:Inv X pins σ H s) (hH:H l=some (.lst xs)):xs.length≤sizeLine∧∃(its:List Value) (n:Nat),Vals xs its∧xs.length=its.length∧s.heap.get? l=some {cls:=.type "list",data:=.seq its.toArray n}:=by
 obtain ⟨z,its,n,r,e⟩:=I.hok l _ hH
 exact ⟨z,its,n,r,r.length,e⟩
theorem nR {n:Nat} (h:n≤sizeLine):Builtin.List.listTooLong n=false:=by
 unfold Builtin.List.listTooLong
 exact decide_eq_false (by omega)
end
section
variable {X:Cx}
def uA:V→List V→Hp→VK→Prop:=fun x vs H Q=>∃l xs y,x=.ref l∧vs=[y]∧H l=some (.lst xs)∧xs.length < sizeLine∧Q .non (upd H l (.lst (xs++[y])))
theorem kN:MtM X "list.append" uA:=by
 intro pins s σ H x vs v us Q I rx rv h
 obtain ⟨l,xs,y,rfl,rfl,hH,hz,q⟩:=h
 cases rx
 obtain ⟨u,rfl,ru⟩:=rv.one
 obtain ⟨z,its,n,r,hl,e⟩:=I.oX hH
 refine call_meets F.slot_list_append ⟨_,e,rfl⟩ F.entry_list_append (F.args_list_append_2 _ _) (PySem.list_append l its.toArray n u (by rw [List.size_toArray];omega)) ⟨e,?_⟩
 refine ⟨.non,_,I.xq (its':=its++[u]) hH e (by simp) (r.append (.cons ru .nil)) ?_,rfl,q⟩
 rw [List.length_append,List.length_singleton]
 omega
def uz:V→List V→Hp→VK→Prop:=fun x vs H Q=>∃l b xs zs,x=.ref l∧vs=[.ref b]∧H l=some (.lst xs)∧H b=some (.lst zs)∧xs.length+zs.length≤sizeLine∧Q .non (upd H l (.lst (xs++zs)))
theorem qy:MtM X "list.extend" uz:=by
 intro pins s σ H x vs v us Q I rx rv h
 obtain ⟨l,b,xs,zs,rfl,rfl,hH,hB,hz,q⟩:=h
 cases rx
 obtain ⟨u,rfl,ru⟩:=rv.one
 cases ru
 obtain ⟨z,its,n,r,hl,e⟩:=I.oX hH
 obtain ⟨z2,its2,n2,r2,hl2,e2⟩:=I.oX hB
 have hsz:its.toArray.size+its2.toArray.size≤sizeLine:=by rw [List.size_toArray,List.size_toArray];omega
 have hlong:¬(!its.toArray.isEmpty&&Builtin.List.listTooLong (its.toArray.size+its2.toArray.size))=true:=by
  rw [nR hsz,Bool.and_false]
  exact Bool.false_ne_true
 refine call_meets F.slot_list_extend ⟨_,e,rfl⟩ F.entry_list_extend (F.args_list_extend_2 _ _)
  (AutoSeq1.list_extend_list_list_0 l its.toArray n b its2.toArray n2 hlong (by rw [List.size_toArray];omega) (by omega)) ⟨e,e2,?_⟩
 refine ⟨.non,_,I.xq (its':=its++its2) hH e (by simp) (r.append r2) ?_,rfl,q⟩
 rw [List.length_append]
 omega
def zO:V→List V→Hp→VK→Prop:=fun x vs H Q=>∃l xs y,x=.ref l∧vs=[]∧H l=some (.lst xs)∧xs[xs.length-1]?=some y∧Q y (upd H l (.lst xs.dropLast))
theorem xm:MtM X "list.pop" zO:=by
 intro pins s σ H x vs v us Q I rx rv h
 obtain ⟨l,xs,y,rfl,rfl,hH,hy,q⟩:=h
 cases rx
 have hus:=rv.zero
 subst hus
 obtain ⟨z,its,n,r,hl,e⟩:=I.oX hH
 obtain ⟨u,hu,ru⟩:=r.get hy
 have hy':its.toArray[its.toArray.size-1]?=some u:=by
  show its.toArray[its.length-1]?=some u
  rw [←Array.getElem?_toList,←hl]
  exact hu
 refine call_meets F.slot_list_pop ⟨_,e,rfl⟩ F.entry_list_pop (F.args_list_pop_1 _) (MeetsSeq.list_pop_last l its.toArray n u hy' (by rw [List.size_toArray];omega)) ⟨e,?_⟩
 refine ⟨y,_,I.xq (its':=its.dropLast) hH e ?_ r.dropLast ?_,ru,q⟩
 ·show its.toArray.eraseIdxIfInBounds (its.toArray.size-1)=its.dropLast.toArray
  rw [List.size_toArray,List.eraseIdxIfInBounds_toArray,pe]
 ·rw [List.length_dropLast]
  omega
def zS:R2:=fun x y H Q=>∃l b xs zs,x=.ref l∧y=.ref b∧H l=some (.lst xs)∧H b=some (.lst zs)∧xs.length+zs.length≤sizeLine∧∀p,H p=none→Q (.ref p) (upd H p (.lst (xs++zs)))
theorem sI:OpR X (binaryOp .Add) zS:=by
 intro pins s σ H x y v u Q I rx ry h
 obtain ⟨l,b,xs,zs,rfl,rfl,hH,hB,hz,q⟩:=h
 cases rx
 cases ry
 obtain ⟨z,its,n,r,hl,e⟩:=I.oX hH
 obtain ⟨z2,its2,n2,r2,hl2,e2⟩:=I.oX hB
 refine PySem.P.add_list e e2 ?_ (by rw [List.size_toArray,List.size_toArray];omega)
 have ea:its.toArray++its2.toArray=(its++its2).toArray:=by simp
 rw [ea]
 exact ⟨.ref _,_,I.xr (t':=s.toks) (r.append r2) (by rw [List.length_append];omega),rfl,q _ I.fresh⟩
def zN:R2:=fun x y H Q=>∃l k xs,x=.ref l∧y=.int k∧H l=some (.lst xs)∧-(2^63)≤k∧k < 2^63∧xs.length*k.toNat≤sizeLine∧
 ∀p,H p=none→Q (.ref p) (upd H p (.lst (List.replicate k.toNat xs).flatten))
theorem len_rep {α:Type} (xs:List α) (k:Nat):(List.replicate k xs).flatten.length=k*xs.length:=by
 induction k with
 | zero=>simp
 | succ k ih=>rw [List.replicate_succ,List.flatten_cons,List.length_append,ih,Nat.succ_mul,Nat.add_comm]
theorem xc:OpR X (binaryOp .Mult) zN:=by
 intro pins s σ H x y v u Q I rx ry h
 obtain ⟨l,k,xs,rfl,rfl,hH,h1,h2,hz,q⟩:=h
 cases rx
 obtain ⟨t,rfl⟩:=ry
 obtain ⟨z,its,n,r,hl,e⟩:=I.oX hH
 have hlen:its.toArray.size*k.toNat≤sizeLine:=by rw [List.size_toArray,←hl];exact hz
 have hcap:¬its.toArray.size*k.toNat > (2^63-1) / 8:=by
  have:(sizeLine:Nat)≤(2^63-1) / 8:=by decide
  omega
 have hfit:¬(!Builtin.List.listFitsIndex k)=true:=by
  rw [fitsIndex_both h1 h2]
  exact Bool.false_ne_true
 have hlong:¬Builtin.List.listTooLong (its.toArray.size*k.toNat)=true:=by
  rw [nR hlen]
  exact Bool.false_ne_true
 have hnew:List.foldl (fun x1 x2=>x1++x2) #[] (List.replicate (if its.toArray.isEmpty=true then 0 else k.toNat) its.toArray)=(List.replicate k.toNat its).flatten.toArray:=by
  have f0:∀m:Nat,List.foldl (fun x1 x2=>x1++x2) #[] (List.replicate m its.toArray)=(List.replicate m its).flatten.toArray:=fun m=>by
   have:=foldl_rep its m []
   rw [List.nil_append] at this
   exact this
  rw [f0]
  cases its with
  | nil=>simp
  | cons a r'=>rw [if_neg (by simp)]
 refine wpAny_binaryOp_repeat_ref (T:="list") (U:="int") (by decide) ⟨_,e,rfl⟩ (fun s'=>typeIs_int s' k t) noFill_list_mul F.fills_int_mul F.slot_int_rmul repeat_list F.slot_int_index.lookup
  (call_meets F.slot_int_rmul (typeIs_int s k t) F.entry_int_rmul (F.args_int_rmul_2 _ _) (int___rmul___int_list k t l its.toArray n)
   ⟨e,rfl,⟨_,e,rfl⟩,call_meets F.slot_list_mul ⟨_,e,rfl⟩ F.entry_list_mul (F.args_list_mul_2 _ _) (AutoListH.list___mul___list_int_3 l its.toArray n k t hfit hcap hlong) ⟨e,?_⟩⟩)
 rw [hnew]
 exact ⟨.ref _,_,I.xr (t':=s.toks) (r.rep k.toNat) (by rw [len_rep,Nat.mul_comm];exact hz),rfl,q _ I.fresh⟩
end
section
variable {prog:Program} {w:World} {A:Around} {E:Value→Shared→Prop} {s:Shared}
set_option maxRecDepth 100000 in
end
section
variable {X:Cx}
end
end L2
namespace L2
open PySem PySem.Spec PyProof.Rows
section
variable {κ:Type} [DecidableEq κ]
def fh (kvs:List (κ×V)) (k:κ):Option V:=(kvs.find? fun kv=>decide (kv.1=k)).map (·.2)
def putK (kvs:List (κ×V)) (k:κ) (v:V):List (κ×V):=
 if (kvs.any fun kv=>decide (kv.1=k))=true then kvs.map (fun kv=>if kv.1=k then (kv.1,v) else kv) else kvs++[(k,v)]
theorem i6 {p:κ×V} {r:List (κ×V)} {k:κ} (e:p.1=k):fh (p::r) k=some p.2:=by simp [fh,List.find?_cons,e]
theorem gy {p:κ×V} {r:List (κ×V)} {k:κ} (e:¬p.1=k):fh (p::r) k=fh r k:=by simp [fh,List.find?_cons,e]
theorem nA (k:κ):∀kvs:List (κ×V),(kvs.any fun kv=>decide (kv.1=k))=(fh kvs k).isSome
 | []=>rfl
 | p::r=>by
  rw [List.any_cons]
  by_cases e:p.1=k
  ·simp only [i6 e,decide_eq_true e,Bool.true_or,Option.isSome_some]
  ·rw [gy e,decide_eq_false e,Bool.false_or];exact nA k r
theorem fG (kvs:List (κ×V)) (k:κ) (v:V):(putK kvs k v).length≤kvs.length+1:=by
 unfold putK
 split
 ·rw [List.length_map];omega
 ·rw [List.length_append,List.length_cons,List.length_nil];omega
theorem jR.eD {o:Option V} {u:Option Value} (r:jR o u):o.isSome=u.isSome:=by
 cases o with
 | none=>cases u with
  | none=>rfl
  | some _=>exact (show False from r).elim
 | some _=>cases u with
  | none=>exact (show False from r).elim
  | some _=>rfl
theorem KV.val {kvs:List (κ×V)} {vs:List (κ×Value)} (r:KV kvs vs) (k:κ):jR (fh kvs k) (valueAt vs k):=by
 unfold KV at r
 induction r with
 | nil=>exact True.intro
 | @cons p q ps qs h t ih=>
  obtain ⟨h1,h2⟩:=h
  by_cases e:p.1=k
  ·have e':q.1=k:=h1.symm.trans e
   have b:valueAt (q::qs) k=some q.2:=by simp [valueAt,List.find?_cons,e']
   rw [i6 e,b];exact h2
  ·have e':¬q.1=k:=fun z=>e (h1.trans z)
   have b:valueAt (q::qs) k=valueAt qs k:=by simp [valueAt,List.find?_cons,e']
   rw [gy e,b];exact ih
theorem KV.any {kvs:List (κ×V)} {vs:List (κ×Value)} (r:KV kvs vs) (k:κ):(kvs.any fun kv=>decide (kv.1=k))=vs.any fun kv=>decide (kv.1=k):=by
 unfold KV at r
 induction r with
 | nil=>rfl
 | cons h t ih=>rw [List.any_cons,List.any_cons,ih,h.1]
theorem KV.vX {kvs:List (κ×V)} {vs:List (κ×Value)} (r:KV kvs vs) (k:κ) {y:V} {u:Value} (ry:RelV y u):
  KV (kvs.map fun kv=>if kv.1=k then (kv.1,y) else kv) (vs.map fun kv=>if kv.1=k then (kv.1,u) else kv):=by
 unfold KV at r ⊢
 induction r with
 | nil=>exact .nil
 | @cons p q ps qs h t ih=>
  rw [List.map_cons,List.map_cons]
  refine .cons ?_ ih
  obtain ⟨h1,h2⟩:=h
  by_cases e:p.1=k
  ·rw [if_pos e,if_pos (h1.symm.trans e)];exact ⟨h1,ry⟩
  ·rw [if_neg e,if_neg (fun z=>e (h1.trans z))];exact ⟨h1,h2⟩
theorem KV.put {kvs:List (κ×V)} {vs:List (κ×Value)} (r:KV kvs vs) (k:κ) {y:V} {u:Value} (ry:RelV y u):KV (putK kvs k y) (stored vs k u):=by
 unfold putK stored
 rw [r.any k]
 by_cases e:(vs.any fun kv=>decide (kv.1=k))=true
 ·rw [if_pos e,if_pos e];exact r.vX k ry
 ·rw [if_neg e,if_neg e];exact Paired.snoc r ⟨rfl,ry⟩
theorem KV.length {kvs:List (κ×V)} {vs:List (κ×Value)} (r:KV kvs vs):kvs.length=vs.length:=Paired.length r
end
theorem kX {P:Program} {w:World} {k:Key} {u:Value} (r:RelV (kV k) u):(bU P w).is k u=true:=by
 cases k with
 | inl i=>obtain ⟨t,e⟩:=(show ∃t,u=Value.int i t from r);subst e;exact nV P w i t
 | inr x=>obtain ⟨t,e⟩:=(show ∃t,u=Value.str x t from r);subst e;exact nU P w x t
theorem kY {P:Program} {w:World}:∀{ks:List Key} {us:List Value},Vals (ks.map kV) us→ItemsAre (bU P w) ks us
 | [],_,r=>by rw [List.map_nil] at r;cases r;exact .nil
 | k::ks,_,r=>by
  rw [List.map_cons] at r
  cases r with
  | cons h t=>exact .cons (kX h) (kY t)
abbrev KT (H:Hp):List (List Key×V)→List (List Key×Addr×Value)→Prop:=Paired fun p q=>p.1=q.1∧H q.2.1=some (.tup (p.1.map kV))∧RelV p.2 q.2.2
theorem KT.val {H:Hp} {kvs:List (List Key×V)} {xs:List (List Key×Addr×Value)} (r:KT H kvs xs) (k:List Key):jR (fh kvs k) ((atKey xs k).map (·.2)):=by
 induction r with
 | nil=>exact True.intro
 | @cons p q ps qs h t ih=>
  obtain ⟨h1,_,h2⟩:=h
  by_cases e:p.1=k
  ·have e':q.1=k:=h1.symm.trans e
   have b:atKey (q::qs) k=some q.2:=by simp [atKey,List.find?_cons,e']
   rw [i6 e,b];exact h2
  ·have e':¬q.1=k:=fun z=>e (h1.trans z)
   have b:atKey (q::qs) k=atKey qs k:=by simp [atKey,List.find?_cons,e']
   rw [gy e,b];exact ih
theorem KT.vX {H:Hp} {kvs:List (List Key×V)} {xs:List (List Key×Addr×Value)} (r:KT H kvs xs) (k:List Key) {y:V} {u:Value} (ry:RelV y u):
  KT H (kvs.map fun kv=>if kv.1=k then (kv.1,y) else kv) (xs.map (putAt k u)):=by
 induction r with
 | nil=>exact .nil
 | @cons p q ps qs h t ih=>
  rw [List.map_cons,List.map_cons]
  refine .cons ?_ ih
  obtain ⟨h1,h2,h3⟩:=h
  unfold putAt
  by_cases e:p.1=k
  ·rw [if_pos e,if_pos (h1.symm.trans e)];exact ⟨h1,h2,ry⟩
  ·rw [if_neg e,if_neg (fun z=>e (h1.trans z))];exact ⟨h1,h2,h3⟩
theorem KT.put {H:Hp} {kvs:List (List Key×V)} {xs:List (List Key×Addr×Value)} (r:KT H kvs xs) (k:List Key) {b:Addr} {y:V} {u:Value} (hb:H b=some (.tup (k.map kV))) (ry:RelV y u):
  KT H (putK kvs k y) (storedH xs k b u):=by
 have e:(kvs.any fun kv=>decide (kv.1=k))=(atKey xs k).isSome:=by
  rw [nA,(r.val k).eD,Option.isSome_map]
 unfold putK storedH
 rw [e]
 by_cases q:(atKey xs k).isSome=true
 ·rw [if_pos q,if_pos q];exact r.vX k ry
 ·rw [if_neg q,if_neg q];exact Paired.snoc r ⟨rfl,hb,ry⟩
theorem KT.keeps {H H':Hp} {kvs:List (List Key×V)} {xs:List (List Key×Addr×Value)} (r:KT H kvs xs) (ht:∀b ys,H b=some (.tup ys)→H' b=some (.tup ys)):KT H' kvs xs:=
 Paired.xn r fun _ _ z=>⟨z.1,ht _ _ z.2.1,z.2.2⟩
section
variable {P:Program} {w:World} {H:Hp} {h:Heap} {a:Addr}
theorem vv {u:HO} (ok:HOk P w H h) (e:Rd H a u):bZ P w H h a u:=e.ok ok
theorem lh {kvs:List (Key×V)} (ok:HOk P w H h) (e:Rd H a (.dK kvs)):kvs.length≤sizeLine∧(a==sysModules)=false∧∃vs,KV kvs vs∧h.DictOf (bU P w) a vs:=
 show bZ P w H h a (.dK kvs) from vv ok e
theorem p4 {kvs:List (Key×V)} (ok:HOk P w H h) (e:H a=some (.dK kvs)):kvs.length≤sizeLine∧(a==sysModules)=false∧∃vs,KV kvs vs∧h.DictOf (bU P w) a vs:=lh ok (.inl e)
theorem jw {ks:List Key} (ok:HOk P w H h) (e:H a=some (.tup (ks.map kV))):(tupleKind (bU P w)).is h ks a:=by
 obtain ⟨_,its,r,o,h1,h2,⟨n,h3⟩,_⟩:=(show bZ P w H h a (.tup (ks.map kV)) from ok a _ e)
 exact ⟨o,its.toArray,n,h1,h2,h3,by simpa using kY r⟩
theorem oh {kvs:List (List Key×V)} (ok:HOk P w H h) (e:Rd H a (.dT kvs)):kvs.length≤sizeLine∧(a==sysModules)=false∧
  ∃xs,KT H kvs xs∧h.DictOfH (tupleKind (bU P w)) a xs:=by
 obtain ⟨z,y,xs,r,o,es,ep,h1,h2,h3,h4,h5⟩:=(show bZ P w H h a (.dT kvs) from vv ok e)
 refine ⟨z,y,xs,r,o,es,ep,h1,h2,h3,h4,fun x hx=>?_,h5⟩
 have all:∀{l:List (List Key×V)} {m:List (List Key×Addr×Value)},KT H l m→∀x∈m,(tupleKind (bU P w)).is h x.1 x.2.1:=by
  intro l m q
  induction q with
  | nil=>intro x hx;exact nomatch hx
  | @cons p q ps qs hq t ih=>
   intro x hx
   rcases List.mem_cons.mp hx with e | hx
   ·subst e
    exact jw ok (by rw [←hq.1];exact hq.2.1)
   ·exact ih x hx
 exact all r x hx
theorem y7 {kvs:List (List Key×V)} (ok:HOk P w H h) (e:H a=some (.dT kvs)):kvs.length≤sizeLine∧(a==sysModules)=false∧
  ∃xs,KT H kvs xs∧h.DictOfH (tupleKind (bU P w)) a xs:=oh ok (.inl e)
end
def kl (H:Hp) (a:Addr) (y:V) (r:Option V):Prop:=
 (∃kvs k,Rd H a (.dK kvs)∧y=kV k∧r=fh kvs k)∨∃kvs k b,Rd H a (.dT kvs)∧y=.ref b∧H b=some (.tup (k.map kV))∧r=fh kvs k
def vq (H:Hp) (a:Addr) (y v:V) (H':Hp):Prop:=
 (∃kvs k,H a=some (.dK kvs)∧y=kV k∧kvs.length < sizeLine∧H'=upd H a (.dK (putK kvs k v)))∨
 ∃kvs k b,H a=some (.dT kvs)∧y=.ref b∧H b=some (.tup (k.map kV))∧kvs.length < sizeLine∧H'=upd H a (.dT (putK kvs k v))
theorem kl.k {H:Hp} {a:Addr} {kvs:List (Key×V)} {k:Key} (e:H a=some (.dK kvs)):kl H a (kV k) (fh kvs k):=.inl ⟨kvs,k,.inl e,rfl,rfl⟩
theorem vq.k {H:Hp} {a:Addr} {kvs:List (Key×V)} {k:Key} {v:V} (e:H a=some (.dK kvs)) (hl:kvs.length < sizeLine):vq H a (kV k) v (upd H a (.dK (putK kvs k v))):=.inl ⟨kvs,k,e,rfl,hl,rfl⟩
section
variable {X:Cx} {pins:List (Addr×Obj)} {σ:St} {H:Hp} {s:Shared} {a:Addr} {y v:V} {u r:Value} {o:Option V} {A:Around} {E:Value→Shared→Prop}
theorem Inv.big (I:Inv X pins σ H s):sysModules < s.heap.objs.size:=by
 have h:mainGlobals < s.heap.objs.size:=(I.mod.glob.keeps I.bk).lt
 exact Nat.lt_trans (by decide) h
theorem qU {Q:Value→Shared→Prop} (hu:A.units+1 < cLine) (I:Inv X pins σ H s) (g:kl H a y (some v)) (ry:RelV y u) (h:∀w' s',Inv X pins σ H s'→RelV v w'→Q w' s'):
  wpAny (model X.prog X.w) A (getItem (.ref a) u) Q E s:=by
 rcases g with ⟨kvs,k,e,ey,l⟩ | ⟨kvs,k,b,e,ey,eb,l⟩
 ·subst ey
  obtain ⟨z,hd,vs,rel,dd⟩:=lh I.hok e
  obtain ⟨w',hw,rw'⟩:=jR.some_of (v:=v) (o:=valueAt vs k) (by rw [l];exact rel.val k)
  exact wpAny_getItem_of (kX ry) dd.mapOf hw (h w' _ (I.tok _) rw')
 ·subst ey
  cases (show u=Value.ref b from ry)
  obtain ⟨z,hd,xs,rel,dd⟩:=oh I.hok e
  obtain ⟨w',hw,rw'⟩:=jR.some_of (v:=v) (o:=(atKey xs k).map (·.2)) (by rw [l];exact rel.val k)
  obtain ⟨p,hp,hp2⟩:=Option.map_eq_some_iff.mp hw
  refine wpAny_getItem_heap (tupleKind_room_in1 hu) (jw I.hok eb) dd hp ?_
  rw [hp2]
  exact h w' _ (I.tok _) rw'
theorem Ah {Q:Value→Shared→Prop} (hu:A.units+1 < cLine) (I:Inv X pins σ H s) (g:kl H a y o) (ry:RelV y u) (h:∀s',Inv X pins σ H s'→Q (.bool o.isSome) s'):
  wpAny (model X.prog X.w) A (compareOp .In u (.ref a)) Q E s:=by
 rcases g with ⟨kvs,k,e,ey,l⟩ | ⟨kvs,k,b,e,ey,eb,l⟩
 ·subst ey
  obtain ⟨z,hd,vs,rel,dd⟩:=lh I.hok e
  refine wpAny_in_of (kX ry) hd dd.mapOf ?_
  rw [←(rel.val k).eD,←l]
  exact h _ (I.tok _)
 ·subst ey
  cases (show u=Value.ref b from ry)
  obtain ⟨z,hd,xs,rel,dd⟩:=oh I.hok e
  refine wpAny_in_heap (tupleKind_room_in1 hu) (jw I.hok eb) hd dd ?_
  have q:=(rel.val k).eD
  rw [Option.isSome_map] at q
  rw [←q,←l]
  exact h _ (I.tok _)
theorem ve {Q:Value→Shared→Prop} (hu:A.units+1 < cLine) (I:Inv X pins σ H s) (g:kl H a y o) (ry:RelV y u) (h:∀s',Inv X pins σ H s'→Q (.bool (!o.isSome)) s'):
  wpAny (model X.prog X.w) A (compareOp .NotIn u (.ref a)) Q E s:=by
 rcases g with ⟨kvs,k,e,ey,l⟩ | ⟨kvs,k,b,e,ey,eb,l⟩
 ·subst ey
  obtain ⟨z,hd,vs,rel,dd⟩:=lh I.hok e
  refine wpAny_notIn_of (kX ry) hd dd.mapOf ?_
  rw [←(rel.val k).eD,←l]
  exact h _ (I.tok _)
 ·subst ey
  cases (show u=Value.ref b from ry)
  obtain ⟨z,hd,xs,rel,dd⟩:=oh I.hok e
  refine wpAny_notIn_heap (tupleKind_room_in1 hu) (jw I.hok eb) hd dd ?_
  have q:=(rel.val k).eD
  rw [Option.isSome_map] at q
  rw [←q,←l]
  exact h _ (I.tok _)
theorem mQ {h':Heap} {t':Nat} {ob:HO} (I:Inv X pins σ H s) (mu:Mut (H a)) (hs:Heap.SameBut a s.heap h') (he:∃q,h'.get? a=some q) (new:bZ X.prog X.w (upd H a ob) h' a ob):
  Inv X pins σ (upd H a ob) {s with heap:=h',toks:=t'}:=
 I.write (x:=a) (e:=a) mu (.inl rfl) (fun b q hb z=>(hs.2 b hb).trans z) he new
theorem tD {P:Program} {w:World} {H':Hp} {h':Heap} {kvs:List (Key×V)} {vs:List (Key×Value)} (z:kvs.length≤sizeLine) (hd:(a==sysModules)=false) (rel:KV kvs vs) (dd:h'.DictOf (bU P w) a vs):
  bZ P w H' h' a (.dK kvs):=⟨z,hd,vs,rel,dd⟩
theorem qT {H':Hp} {Q:Unit→Shared→Prop} (hu:A.units+1 < cLine) (I:Inv X pins σ H s) (g:vq H a y v H') (ry:RelV y u) (rv:RelV v r) (h:∀s',Inv X pins σ H' s'→Q () s'):
  wpAny (model X.prog X.w) A (setItem (.ref a) u r) Q E s:=by
 rcases g with ⟨kvs,k,e,ey,l,eH⟩ | ⟨kvs,k,b,e,ey,eb,l,eH⟩
 ·subst ey eH
  obtain ⟨z,hd,vs,rel,dd⟩:=p4 I.hok e
  have hz:vs.length≤sizeLine:=by rw [←rel.length];exact z
  have hl:(putK kvs k v).length≤sizeLine:=by have:=fG kvs k v;omega
  refine wpAny_setItem_pairs (hsz:=hz) (kX ry) dd fun h' dd' hs=>h _ ?_
  have he:∃q,h'.get? a=some q:=let ⟨q,_,_,hq,_⟩:=dd';⟨q,hq⟩
  exact mQ I (by rw [e];exact True.intro) hs he (tD hl hd (rel.put k rv) dd')
 ·subst ey eH
  cases (show u=Value.ref b from ry)
  obtain ⟨z,hd,xs,rel,dd⟩:=y7 I.hok e
  have hz:xs.length≤sizeLine:=by rw [←Paired.length rel];exact z
  have hl:(putK kvs k v).length≤sizeLine:=by have:=fG kvs k v;omega
  refine wpAny_setItem_heap (hsz:=hz) (tupleKind_room_in1 hu) (jw I.hok eb) dd fun h' dd' hs=>h _ ?_
  obtain ⟨q,es,ep,hq,h2,h3,h4,_,h5⟩:=dd'
  refine mQ I (by rw [e];exact True.intro) hs ⟨q,hq⟩ ⟨hl,hd,_,(rel.put k eb rv).keeps fun c ys ec=>?_,q,es,ep,hq,h2,h3,h4,h5⟩
  rw [aD (yY ec e (fun z=>nomatch z))]
  exact ec
end
section
variable {X:Cx} {pins:List (Addr×Obj)} {σ:St} {H:Hp} {s:Shared} {a:Addr} {kvs:List (Key×V)} {k:Key} {u:Value} {A:Around} {E:Value→Shared→Prop}
theorem y8 {Q:Value→Shared→Prop} (I:Inv X pins σ H s) (e:Rd H a (.dK kvs)) (h:∀t s',Inv X pins σ H s'→Q (.int kvs.length t) s'):wpAny (model X.prog X.w) A (call (.builtin "len") [.ref a]) Q E s:=by
 obtain ⟨z,hd,vs,rel,dd⟩:=lh I.hok e
 refine call_len_dict hd dd (by rw [←rel.length];rw [sizeLine_eq] at z;omega) ?_
 rw [←rel.length]
 exact h _ _ (I.tok _)
end
def vp (i:Expr):Prop:=∀ov iv,subscripted i false ov iv=operate [ov,iv] (getItem ov iv)
theorem ue {prog:Program} {w:World} {A:Around} {E:Value→Shared→Prop} {s:Shared} {env:Env} {value slice:Expr} {pos:Pos} {T id:String} {Q:Value→Shared→Prop}
  (hl:typeLookup (.type T) "__getitem__"=pure (some (.builtin id))) (hs:vp slice)
  (h:wpAny (model prog w) A (eval value env) (fun o s₁=>wpAny (model prog w) A (eval slice env) (fun i s₂=>s₂.TypeIs o T∧wpAny (model prog w) A (getItem o i) Q E s₂) E s₁) E s):
  wpAny (model prog w) A (eval (.Subscript value slice pos) env) Q E s:=by
 refine Subscript_ (wpAny_mono h (fun o s₁ h₁=>wpAny_mono h₁ (fun i s₂ h₂=>?_) fun _ _ x=>x) fun _ _ x=>x)
 obtain ⟨hT,h₂⟩:=h₂
 unfold subscriptTail
 refine wpAny_bind ?_
 rw [getitemInPython_of_ne hT.not_modules]
 refine wpAny_bind (wpAny_specialOf hT hl ?_)
 have fin:wpAny (model prog w) A (subscripted slice false o i) (fun r s₃=>wpAny (model prog w) A (letTemporaryGo value o r >>=fun _=>pure r) Q E s₃) E s₂:=by
  rw [hs o i]
  exact wpAny_operating (wpAny_mono h₂ (fun r s₃ h₃=>wpAny_bind (wpAny_letTemporaryGo (wpAny_pure h₃))) fun _ _ x=>x)
 first
  | exact wpAny_pure (wpAny_bind fin)
  | exact wpAny_bind (wpAny_pure (wpAny_bind fin))
  | exact wpAny_bind fin
theorem om {X:Cx} {pins:List (Addr×Obj)} {σ:St} {H:Hp} {s:Shared} {a:Addr} {y:V} {o:Option V} (I:Inv X pins σ H s) (g:kl H a y o):s.TypeIs (.ref a) "dict":=by
 rcases g with ⟨kvs,k,e,_,_⟩ | ⟨kvs,k,b,e,_,_,_⟩
 ·obtain ⟨_,_,vs,_,dd⟩:=lh I.hok e
  exact dd.typeIs
 ·obtain ⟨_,_,xs,_,dd⟩:=oh I.hok e
  exact dd.typeIs
section
variable {X:Cx} {o i e value:Expr} {pos pos' tpos:Pos} {td ty tv:TE}
end
theorem oj {P:Program} {w:World} {H:Hp} (h:Heap) (hb:sysModules < h.objs.size):bZ P w H (h.push {cls:=.type "dict",data:=.dict #[]}) h.objs.size (.dK []):=
 ⟨Nat.zero_le _,beq_eq_false_iff_ne.mpr (Ne.symm (Nat.ne_of_lt hb)),[],.nil,Heap.DictOf.new h⟩
def vI:TE:=fun _ H Q=>∀p,H p=none→Q (.ref p) (upd H p (.dK []))
section
variable {X:Cx} {pos:Pos}
theorem sy:PE X (.Dict [] [] pos) vI:=fun pins s σ H Q I h=>
 wpAny_Dict_empty ⟨.ref s.heap.objs.size,_,I.laid (a:=s.heap.objs.size) (o:=.dK []) (t':=s.toks) (fun _ _ q=>Heap.get?_push_of_some _ q) (Nat.le_refl _) (oj s.heap I.big),rfl,h _ (I.hok.fresh (Nat.le_refl _))⟩
end
def lJ:List (TE×TE)→St→Hp→(List (V×V)→Hp→Prop)→Prop
 | [],_,H,Q=>Q [] H
 | (tk,tv)::r,σ,H,Q=>tk σ H fun x H1=>tv σ H1 fun y H2=>lJ r σ H2 fun ps H3=>Q ((x,y)::ps) H3
abbrev VV:List (V×V)→List (Value×Value)→Prop:=Paired fun p q=>RelV p.1 q.1∧RelV p.2 q.2
def PPs (X:Cx) (pos:Pos) (keys:List (Option Expr)) (values:List Expr) (trs:List (TE×TE)):Prop:=
 ∀(pins:List (Addr×Obj)) (s:Shared) (σ:St) (H:Hp) (Q:List (V×V)→Hp→Prop),Inv X pins σ H s→lJ trs σ H Q→
  wpAny (model X.prog X.w) X.A (evalPairs (pairTrees keys values X.env pos)) (fun vs s'=>∃ps H',Inv X pins σ H' s'∧VV ps vs∧Q ps H') X.xe s
theorem uI {X:Cx} {pos:Pos}:PPs X pos [] [] []:=fun pins s σ H Q I h=>pairTrees_nil_walk ⟨[],H,I,.nil,h⟩
theorem sk {X:Cx} {pos:Pos} {k v:Expr} {ks:List (Option Expr)} {vs:List Expr} {tk tv:TE} {trs:List (TE×TE)} (hk:PE X k tk) (hv:PE X v tv) (hr:PPs X pos ks vs trs):
  PPs X pos (some k::ks) (v::vs) ((tk,tv)::trs):=fun pins s σ H Q I h=>
 pairTrees_cons_walk (thn (hk pins s σ H _ I h) fun u s1 ⟨x,H1,I1,rx,q1⟩=>thn (hv pins s1 σ H1 _ I1 q1) fun w2 s2 ⟨y,H2,I2,ry,q2⟩=>
  thn (hr pins s2 σ H2 _ I2 q2) fun ws s3 ⟨ps,H3,I3,rel,q3⟩=>⟨(x,y)::ps,H3,I3,.cons ⟨rx,ry⟩ rel,q3⟩)
def dW (kvs more:List (Key×V)):List (Key×V):=more.foldl (fun acc kv=>putK acc kv.1 kv.2) kvs
theorem KV.merge:∀{more:List (Key×V)} {rs:List (Key×Value)} {kvs:List (Key×V)} {vs:List (Key×Value)},KV more rs→KV kvs vs→KV (dW kvs more) (merged vs rs):=by
 intro more rs kvs vs r
 unfold KV at r
 induction r generalizing kvs vs with
 | nil=>intro q;exact q
 | @cons p q ps qs h t ih=>
  intro r0
  have e:KV (putK kvs p.1 p.2) (stored vs q.1 q.2):=by
   have:=r0.put p.1 h.2
   rw [←h.1];exact this
  exact ih e
theorem fY:∀(more kvs:List (Key×V)),(dW kvs more).length≤kvs.length+more.length
 | [],kvs=>by show kvs.length≤kvs.length+0;omega
 | p::r,kvs=>by
  have h1:=fY r (putK kvs p.1 p.2)
  have h2:=fG kvs p.1 p.2
  show (dW (putK kvs p.1 p.2) r).length≤_
  rw [List.length_cons];omega
theorem jO {P:Program} {w:World}:∀{kvs:List (Key×V)} {ws:List (Value×Value)},VV (kvs.map fun kv=>(kV kv.1,kv.2)) ws→∃rs,Carries (bU P w) ws rs∧KV kvs rs
 | [],_,r=>by rw [List.map_nil] at r;cases r;exact ⟨[],True.intro,.nil⟩
 | p::kvs,_,r=>by
  rw [List.map_cons] at r
  cases r with
  | @cons a b as bs h t=>
   obtain ⟨rs,c,q⟩:=jO (P:=P) (w:=w) t
   obtain ⟨b1,b2⟩:=b
   exact ⟨(p.1,b2)::rs,⟨kX h.1,rfl,c⟩,.cons ⟨rfl,h.2⟩ q⟩
def rA (trs:List (TE×TE)):TE:=fun σ H Q=>∀p,H p=none→lJ trs σ (upd H p (.dK [])) fun ps H2=>H2 p=some (.dK [])∧∃kvs:List (Key×V),ps=kvs.map (fun kv=>(kV kv.1,kv.2))∧kvs.length≤15∧Q (.ref p) (upd H2 p (.dK (dW [] kvs)))
theorem pR {X:Cx} {pos:Pos} {keys:List (Option Expr)} {values:List Expr} {trs:List (TE×TE)} (h:PPs X pos keys values trs) (hall:keys.all (·.isSome)=true) (hl:keys.length=values.length) (h0:keys≠[])
  (h15:keys.length≤15):PE X (.Dict keys values pos) (rA trs):=by
 intro pins s σ H Q I q
 have hn:=I.hok.fresh (Nat.le_refl s.heap.objs.size)
 have I1:=I.laid (a:=s.heap.objs.size) (o:=.dK []) (h':=s.heap.push {cls:=.type "dict",data:=.dict #[]}) (t':=s.toks) (fun _ _ q=>Heap.get?_push_of_some _ q) (Nat.le_refl _) (oj s.heap I.big)
 refine wpAny_Dict_walk (knd:=bU X.prog X.w) hall hl h0 h15 (thn (h pins _ σ _ _ I1 (q _ hn)) fun ws s2 ⟨ps,H2,I2,rel,e,kvs,ep,lk,q2⟩=>?_)
 subst ep
 obtain ⟨rs,c,rk⟩:=jO (P:=X.prog) (w:=X.w) rel
 obtain ⟨z,hd,vs0,r0,dd⟩:=p4 I2.hok e
 cases r0
 refine ⟨rs,c,dd,fun h' dd' hs=>⟨.ref s.heap.objs.size,_,?_,rfl,q2⟩⟩
 have hz:(dW [] kvs).length≤sizeLine:=by
  have h1:=fY kvs []
  rw [List.length_nil] at h1
  rw [sizeLine_eq];omega
 have he:∃q,h'.get? s.heap.objs.size=some q:=let ⟨q,_,_,hq,_⟩:=dd';⟨q,hq⟩
 exact mQ I2 (by rw [e];exact True.intro) hs he (tD hz hd (rk.merge .nil) dd')
section
variable {X:Cx} {pins:List (Addr×Obj)} {σ:St} {H:Hp} {s:Shared} {a:Addr} {y d:V} {u r:Value} {o:Option V} {A:Around} {E:Value→Shared→Prop}
end
section
variable {X:Cx} {o e f:Expr} {apos cpos:Pos} {td ty tx:TE}
end
section
variable {X:Cx} {pins:List (Addr×Obj)} {σ:St} {H:Hp} {s:Shared} {a:Addr} {kvs:List (Key×V)} {A:Around} {E:Value→Shared→Prop}
end
section
variable {X:Cx} {pins:List (Addr×Obj)} {σ:St} {H:Hp} {s:Shared} {a:Addr} {y:V} {u:Value} {A:Around} {E:Value→Shared→Prop}
end
end L2
namespace Att
open PySem PySem.W PySem.Calls PyProof.Rows
theorem iO {P:Params} {h:Heap}:∀(ns:List Int) (vs:List Value),WellAll P h vs (ns.map WData.int)→IntsAre vs ns:=by
 intro ns
 induction ns with
 | nil=>
  intro vs w
  rw [List.map_nil] at w
  cases w
  exact .nil
 | cons n ns ih=>
  intro vs w
  rw [List.map_cons] at w
  cases w with
  | cons a b=>
   cases a
   exact .cons _ _ (ih _ b)
theorem qp {l:OpenLaw} {n:Nat} (hn:l.most=some n) {P:Params} {h:Heap} {args:List WData} {vals:List Value}
  (hpre:l.row.toRowW.claim.pre args=true) (hwl:WellAll P h vals args):
  ∃a vs ns,vals=[Value.ref a]∧args=[WData.list (ns.map WData.int)]∧h.get? a=some {cls:=.type "list",data:=.seq vs.toArray}∧IntsAre vs ns∧ns.length≤n:=by
 have hsh:WShape.hasAll [] args [.list .int]=true:=(pre_splitW hpre).1
 have hc:l.pre.holds [] {args:=args}=true:=(pre_splitW hpre).2
 obtain ⟨d,r,rfl,h1,h2⟩:=hasAllW_cons hsh
 obtain rfl:=hasAllW_nil h2
 obtain ⟨xs,rfl,h3⟩:=hasW_list h1
 obtain ⟨ns,rfl⟩:=items_int h3
 have hlen:ns.length≤n:=by
  unfold OpenLaw.pre at hc
  have h4:(WTm.not (.lt (.lit (.int (n:Int))) (.len (.arg 0)))).holds [] {args:=[.list (ns.map .int)]}=true:=by
   have h4:=(holds_andW hc).1
   rw [hn] at h4
   exact h4
  have h5:=condW_of h4 (w_not (w_lt w_lit (w_len_list (w_arg rfl))))
  rw [List.length_map] at h5
  refine Nat.le_of_not_lt fun q=>?_
  have q':(n:Int) < ((ns.length:Nat):Int):=by omega
  first
   | (rw [decide_eq_true q'] at h5;exact absurd h5 (by decide))
   | (simp at h5;omega)
 cases hwl with
 | cons w1 w2=>
  cases w2
  cases w1 with
  | list ho hall=>exact ⟨_,_,ns,rfl,rfl,ho,iO ns _ hall,hlen⟩
theorem qr (l:OpenLaw) (args:List WData):l.row.toRowW.claim.post args (.bool true) args=true:=
 postW_of (r:=l.row.toRowW) (X:=(true==true))
  (show WShape.has [] (.bool true) .bool=true by first | rfl | decide | simp [WShape.has,WShape.arms,WShape.armsAll])
  (show (WTm.eq .res (.lit (.bool true))).value [] {args:=args,res:=some (.bool true),after:=args}=some (.bool (true==true)) from w_eq_bool (w_res rfl) w_lit) rfl
theorem ow {l:OpenLaw} {n:Nat} {q:Program} {loose:List Str} {XP:(Str→Option Value)→Heap→Prop} {YP:World→Heap→Prop} {d:DefRec}
  (hn:l.most=some n) (hdf:d.params.defaults=[])
  (call:∀(w:World) (s₀ s₁:Shared) (mg mb:Str→Option Value) (fa:Addr) (o:Obj) (pm cd doc:Value) (a:Addr) (vs:List Value) (ns:List Int),
   Ground q loose [] XP w s₀ mg mb s₁.heap→YP w s₁.heap→
   s₁.heap.get? fa=some o→o.data=.func (docDef d.name d.params d.body d.scope pm cd doc)→s₁.heap.CodeRec cd d.name→mg d.name=some (.ref fa)→
   s₁.heap.get? a=some {cls:=.type "list",data:=.seq vs.toArray}→IntsAre vs ns→ns.length≤n→s₁.gens=#[]→
   codeAny (model l.prog w) callerA (.call (.ref fa) ⟨[.ref a],[]⟩) (fun r s'=>r=.ok (.ret (.bool true))∧OldK s₁.heap s'.heap∧s'.os=s₁.os∧AllBare s'.gens) s₁):
  WalkO q loose XP YP l.row.toRowW d [] (fun f vs=>PySem.call f vs):=by
 intro w s₀ s₁ mg mb G Y fa o pm cd doc dV kV ho hd hcd hD hmg hg args vals as hpre hlay hrd hwl hlo
 obtain rfl:dV=.none:=Dflts.none hD hdf
 obtain rfl:kV=.none:=Dflts.noKw hD
 obtain ⟨a,vs,ns,rfl,rfl,hobj,hints,hlen⟩:=qp hn hpre hwl
 refine enter_call (codeAny_mono (call w s₀ s₁ mg mb fa o pm cd doc a vs ns G Y ho (fd_plain hd) hcd hmg hobj hints hlen hg) fun r s' hq=>?_)
 obtain ⟨rfl,h2,h3,h4⟩:=hq
 exact ⟨.inl ⟨.bool true,.bool true,[],rfl,fun _=>rfl,.bool true,qr l _,fun _=>⟨List.Pairwise.nil,fun _ hm=>(nomatch hm)⟩⟩,h2,h3,h4⟩
section
variable {prog:Program} {w:World} {A:Around} {E:Value→Shared→Prop} {s:Shared} {K:Frag}
end
end Att
namespace L2
open PySem PySem.Spec PyProof.Rows
theorem fN:∀{vs:List Value} {ns:List Int},IntsAre vs ns→Vals (ns.map V.int) vs
 | _,_,.nil=>.nil
 | _,_,.cons n t h=>.cons ⟨t,rfl⟩ (fN h)
def za (H:Hp):Prop:=∀b,H b=none∨∃o xs,H b=some (.frz o (.lst xs))
theorem sP {P:Program} {w:World} {K:PySem.W.Frag} {mg mb:Str→Option Value} {CX:CXT} {k:Nat} {fa a:Addr} {fd:FuncData} {x:Str} {sp:Sp} {s₁:Shared} {vs:List Value} {ns:List Int}
  (KX:K.In s₁.heap) (hns:s₁.heap.Ns mainGlobals mg) (hb:s₁.heap.Ns builtinsNs mb) (hbb:∀x:Str,x≠"__name__"→mb x=bootBuiltins x) (hlim:s₁.heap.NoLimit) (hg:s₁.gens=#[])
  (ha:s₁.heap.get? a=some {cls:=.type "list",data:=.seq vs.toArray}) (hi:IntsAre vs ns) (hl:ns.length≤sizeLine) (hr:Room k callerA)
  (F:∀base:Heap,K.In base→base.Ns mainGlobals mg→FnOk P w K mg base CX k fa fd [x] sp) (hbind:∀(s:Shared) (u:Value),BindsTo s fd ⟨[u],[]⟩ [(x,u)])
  (hsp:∀H:Hp,za H→SqL K H a (ns.map V.int)→sp [.ref a] H (fun v _=>v=.bl true) fun _ _ _=>False)
  (hCX:∀H e s',CX [] H s₁ (fun _ _ _=>False) e s'→False):
  codeAny (model P w) callerA (.call (.ref fa) ⟨[.ref a],[]⟩) (fun r s'=>r=.ok (.ret (.bool true))∧OldK s₁.heap s'.heap∧s'.os=s₁.os∧AllBare s'.gens) s₁:=by
 have rv:=fN hi
 have lenV:=hi.length
 have core:∀H:Hp,za H→SqL K H a (ns.map V.int)→HOk P w H s₁.heap→(∀b,H b≠none→b=a)→(H a≠none→K.lookup a=none)→
   codeAny (model P w) callerA (.call (.ref fa) ⟨[.ref a],[]⟩) (fun r s'=>r=.ok (.ret (.bool true))∧OldK s₁.heap s'.heap∧s'.os=s₁.os∧AllBare s'.gens) s₁:=by
  intro H hO hS hok hA hK
  have base_of:∀{b:Addr} {o:Obj},s₁.heap.get? b=some o→H b=none→(mH s₁.heap H).get? b=some o:=fun e n=>sR e n
  have noA:∀{b:Addr} {o:Obj} {es:Array DictEntry} {ep:Nat},s₁.heap.get? b=some o→o.data=.dict es ep→H b=none:=fun {b o es ep} e d=>by
   cases q:H b with
   | none=>rfl
   | some u=>
    have e':b=a:=hA b (by rw [q];simp)
    subst e'
    rw [ha] at e;cases e
    have d':Data.seq vs.toArray _=Data.dict es ep:=d
    cases d'
  have nsK:∀{b:Addr} {m:Str→Option Value},s₁.heap.Ns b m→(mH s₁.heap H).Ns b m:=fun {b m} ⟨o,es,ep,e,d,r⟩=>⟨o,es,ep,base_of e (noA e d),d,r⟩
  have hKb:K.In (mH s₁.heap H):=fun b o e=>base_of (KX b o e) (by
   cases q:H b with
   | none=>rfl
   | some u=>
    have e':b=a:=hA b (by rw [q];simp)
    subst e'
    rw [hK (by rw [q];simp)] at e;cases e)
  have hM:Mod K mg (mH s₁.heap H):=⟨hKb,nsK hns,⟨mb,nsK hb,hbb⟩,let ⟨mc,h1,h2⟩:=hlim;⟨mc,nsK h1,h2⟩⟩
  have e0:Env0 P w K mg (mH s₁.heap H) callerA [] s₁ H:=⟨rfl,hM,fun b o e=>uW e,Nat.le_of_eq (qL _ _),trivial,fun b hb=>absurd (show b∈([]:List Addr) from hb) (by simp),hok,.of_eq hg⟩
  refine codeAny_mono ((F _ hKb (nsK hns)).run callerA [] s₁ H ⟨[.ref a],[]⟩ [.ref a] [.ref a] _ _ hr e0 (hbind s₁ (.ref a)) (.cons rfl .nil) (hsp H hO hS)) fun r s' h=>?_
  cases r with
  | error e=>exact (hCX H e s' h).elim
  | ok fl=>
   cases fl with
   | next=>exact False.elim h
   | brk=>exact False.elim h
   | cont=>exact False.elim h
   | ret u=>
    obtain ⟨v,H',os,bare,un,hok',r',q⟩:=h
    have q':v=.bl true:=q
    subst q'
    obtain rfl:u=Value.bool true:=r'
    refine ⟨rfl,OldK.of_keep fun b o e=>?_,os,bare⟩
    cases q:H b with
    | none=>exact un.keep b o e q (by intro z;exact absurd (show b∈([]:List Addr) from z) (by simp)) (by simp)
    | some u=>
     rcases hO b with z | ⟨ob,xs,z⟩
     ·rw [q] at z;cases z
     ·have z2:=un.frzs b ob _ z
      obtain ⟨e1,_⟩:=hok b _ z
      obtain ⟨e2,_⟩:=hok' b _ z2
      rw [e] at e1;cases e1
      exact e2
 cases hk:K.lookup a with
 | some o=>
  have e:=KX a o hk
  rw [ha] at e
  cases e
  refine core (fun _=>none) (fun _=>.inl rfl) (.inr ⟨_,vs.toArray,_,hk,rfl,rfl,rfl,by rw [List.size_toArray,lenV];exact hl,by simpa using rv⟩) (fun b u z=>by have z':(none:Option HO)=some u:=z;cases z') (fun b z=>absurd rfl z) fun z=>absurd rfl z
 | none=>
  refine core (fun b=>if b=a then some (.frz {cls:=.type "list",data:=.seq vs.toArray} (.lst (ns.map V.int))) else none) (fun b=>?_) (.inl (.inr ⟨{cls:=.type "list",data:=.seq vs.toArray},if_pos rfl⟩)) (fun b u z=>?_) (fun b z=>?_) fun _=>hk
  ·by_cases hb:b=a
   ·exact .inr ⟨_,_,if_pos hb⟩
   ·exact .inl (if_neg hb)
  ·by_cases hb:b=a
   ·have z':=(if_pos hb).symm.trans z
    cases z'
    subst hb
    exact ⟨ha,by rw [List.length_map];exact hl,vs,_,rv,ha⟩
   ·have z':=(if_neg hb).symm.trans z
    cases z'
  ·by_cases hb:b=a
   ·exact hb
   ·exact absurd (if_neg hb) z
end L2
namespace L2
open PySem PySem.Spec PyProof.Rows
end L2
namespace L2
open PySem PySem.Spec PyProof.Rows
def gO (s:Stmt):Arguments:=match s with
 | .FunctionDef _ a _ _ _ _ _ _ _ _=>a
 | _=>{posonlyargs:=[],args:=[],vararg:=none,kwonlyargs:=[],kw_defaults:=[],kwarg:=none,defaults:=[]}
def fc (s:Stmt):List Stmt:=match s with
 | .FunctionDef _ _ b _ _ _ _ _ _ _=>b
 | _=>[]
def aB (s:Stmt):Scope:=match s with
 | .FunctionDef _ _ _ _ _ _ sc _ _ _=>sc
 | _=>{kind:=.function,names:=[],isGenerator:=false,isCoroutine:=false}
abbrev CX0:CXT:=fun _ _ _ _ _ _=>False
abbrev E0:XK:=fun _ _ _=>False
theorem yT {X:Cx}:Passes CX0 X E0:=fun _ _ _ _ _ _ _ h=>h.elim
structure Fun (K:PySem.W.Frag) (x qual:Str) (st:Stmt) (f:Addr) (fd:FuncData):Prop where
 ex:∃(oc:Value) (od:Option Addr) (kV doc pm:Value) (an:Option Addr) (cdv ct:Value) (osl:Array (Option Value)),
  fd=PySem.W.fnOf x qual (gO st) (fc st) (aB st) .none kV doc pm an cdv ct∧K.lookup f=some ⟨oc,od,.func fd,osl⟩∧PySem.W.codeIn K cdv qual=true
 kp:PySem.W.keepIn K (.ref f)=true
section
variable {P:Program} {w:World} {K:PySem.W.Frag} {mg:Str→Option Value} {base:Heap}
theorem Fun.ok {x qual:Str} {st:Stmt} {f:Addr} {fd:FuncData} {N ps:List Str} {k:Nat} {sp:Sp} (F:Fun K x qual st f fd) (S:FnScope N ps (aB st)) (len:∀vs H Q E,sp vs H Q E→vs.length=ps.length)
  (hbody:∀(cdv:Value) (A:Around) (outer:List Env) (s:Shared) (H:Hp) (vs:List V) (Q:VK) (E:XK),Room k (A.deeper (envOfC qual (aB st) s.heap.objs.size f cdv))→sp vs H Q E→
   ∃t,PSs (pv CX0 P w K mg base N qual (aB st) f cdv A outer s H E).nox (fc st) t∧t {nx:=fun _ H'=>Q .non H',rt:=Q} (start N vs) H):FnOk P w K mg base CX0 (k+1) f fd ps sp:=by
 obtain ⟨oc,od,kV,doc,pm,an,cdv,ct,osl,rfl,lk,hcd⟩:=F.ex
 refine y4 lk hcd S len fun A outer s H vs Q E hr hsp=>?_
 obtain ⟨t,h,q⟩:=hbody cdv A outer s H vs Q E hr hsp
 exact ⟨t,h.nox,q⟩
theorem Fun.binds {x qual:Str} {st:Stmt} {f:Addr} {fd:FuncData} {ps:List Str} (F:Fun K x qual st f fd)
  (h:∀(kV doc pm:Value) (an:Option Addr) (cdv ct:Value) (us:List Value),us.length=ps.length→bindArgs (PySem.W.fnOf x qual (gO st) (fc st) (aB st) .none kV doc pm an cdv ct) ⟨us,[]⟩=pure (ps.zip us)):Binds K fd ps []:=by
 obtain ⟨oc,od,kV,doc,pm,an,cdv,ct,osl,rfl,lk,hcd⟩:=F.ex
 exact .all (h kV doc pm an cdv ct)
end
section
variable {X:Cx}
theorem qZ:dZ X (.builtin "len") (fun xs H Q=>∃a kvs,xs=[V.ref a]∧H a=some (.dK kvs)∧Q (.int kvs.length) H):=by
 intro pins s σ H xs us Q I r h
 obtain ⟨a,kvs,rfl,ha,q⟩:=h
 obtain ⟨u,rfl,ru⟩:=vals1 r
 cases ru
 exact y8 I (.inl ha) fun t s' I'=>⟨.int kvs.length,H,I',⟨t,rfl⟩,q⟩
end
theorem Aa {A B:Prop} (h:B):if false=true then A else B:=by
 rw [if_neg Bool.false_ne_true]
 exact h
theorem z9 {A B:Prop} (h:A):if true=true then A else B:=by
 rw [if_pos rfl]
 exact h
section
variable {κ:Type} [DecidableEq κ]
end
end L2
namespace L2
open PySem PySem.Spec PyProof.Rows
theorem HOk.off {P:Program} {w:World} {H:Hp} {h h':Heap} {C:Addr} (ok:HOk P w H h) (hC:H C=none) (k:∀b u,b≠C→h.get? b=some u→h'.get? b=some u):HOk P w H h':=by
 intro a o e
 have ne:a≠C:=by rintro rfl;rw [hC] at e;cases e
 refine (ok a o e).nD (fun b u hb q=>k b u ?_ q) (fun _ x=>x) (fun _ _ x=>x)
 rcases hb with rfl | hb
 ·exact ne
 ·rintro rfl;rw [hC] at hb;cases hb
def eI (env:Env):List (Str×NameKind)→List (Str×Addr)→List (Str×Addr)
 | [],acc=>acc
 | (n,k)::r,acc=>if (k==NameKind.free)=true then eI env r ((n,(env.cells.lookup n).getD 0)::acc) else eI env r acc
theorem jK {env:Env} {scope:Scope} (h:∀y∈scope.names,y.2=.free→∃c,env.cells.lookup y.1=some c):closureFor scope env=pure (eI env scope.names []):=by
 have key:∀(names:List (Str×NameKind)) (acc:List (Str×Addr)),(∀y∈names,y.2=.free→∃c,env.cells.lookup y.1=some c)→
   (forIn names acc (fun (x:Str×NameKind) (r:List (Str×Addr))=>match x with
    | (name,kind)=>if (kind==NameKind.free)=true then do let a←cellOf env name;pure (ForInStep.yield ((name,a)::r)) else pure (ForInStep.yield r)):Sem (List (Str×Addr)))=pure (eI env names acc):=by
  intro names
  induction names with
  | nil=>intro acc _;rfl
  | cons y r ih=>
   intro acc hy
   obtain ⟨n,k⟩:=y
   have hr:=fun a=>ih a fun z hz=>hy z (List.mem_cons_of_mem _ hz)
   rw [List.forIn_cons]
   unfold eI
   by_cases hk:(k==NameKind.free)=true
   ·have hk':k=.free:=by simpa using hk
    obtain ⟨c,hc⟩:=hy (n,k) List.mem_cons_self hk'
    have e:cellOf env n=pure c:=by unfold cellOf;rw [hc]
    simp only [hk,if_true,e,hc,Option.getD_some]
    exact hr _
   ·simp only [hk,if_false]
    exact hr _
 have k:=key scope.names [] h
 unfold closureFor
 dsimp only
 rw [k]
 rfl
theorem ir {env:Env} {x:Str} {c:Addr}:∀(names:List (Str×NameKind)) (acc:List (Str×Addr)),(∀y∈names,y.2=.free→∃c,env.cells.lookup y.1=some c)→
  (∀d,acc.lookup x=some d→env.cells.lookup x=some d)→(eI env names acc).lookup x=some c→env.cells.lookup x=some c
 | [],acc,_,ha,h=>ha c h
 | (n,k)::r,acc,hy,ha,h=>by
  unfold eI at h
  have hr:=fun z hz=>hy z (List.mem_cons_of_mem _ hz)
  by_cases hk:(k==NameKind.free)=true
  ·rw [if_pos hk] at h
   refine ir r _ hr (fun d hd=>?_) h
   have hk':k=.free:=by simpa using hk
   obtain ⟨c',hc⟩:=hy (n,k) List.mem_cons_self hk'
   rw [List.lookup_cons] at hd
   cases hx:x==n with
   | true=>
    rw [hx] at hd
    have e:x=n:=by simpa using hx
    rw [e,hc]
    rw [hc] at hd
    exact hd
   | false=>
    rw [hx] at hd
    exact ha d hd
  ·rw [if_neg hk] at h
   exact ir r _ hr ha h
theorem jL {env:Env} {x:Str}:∀(names:List (Str×NameKind)) (acc:List (Str×Addr)),(∃c,acc.lookup x=some c)→∃c,(eI env names acc).lookup x=some c
 | [],_,h=>h
 | (n,k)::r,acc,h=>by
  unfold eI
  by_cases hk:(k==NameKind.free)=true
  ·rw [if_pos hk]
   refine jL r _ ?_
   rw [List.lookup_cons]
   cases hx:x==n with
   | true=>exact ⟨_,rfl⟩
   | false=>exact h
  ·rw [if_neg hk]
   exact jL r _ h
theorem gR {env:Env} {x:Str}:∀(names:List (Str×NameKind)) (acc:List (Str×Addr)),(x,NameKind.free)∈names→∃c,(eI env names acc).lookup x=some c
 | [],_,h=>by cases h
 | (n,k)::r,acc,h=>by
  unfold eI
  rcases List.mem_cons.mp h with e | h'
  ·injection e with e1 e2
   subst e1 e2
   rw [if_pos (by rfl)]
   refine jL r _ ⟨(env.cells.lookup x).getD 0,?_⟩
   rw [List.lookup_cons,beq_self_eq_true]
  ·by_cases hk:(k==NameKind.free)=true
   ·rw [if_pos hk];exact gR r _ h'
   ·rw [if_neg hk];exact gR r _ h'
theorem eU {env:Env}:∀{names:List (Str×NameKind)} {x:Str} {j:NameKind},
  (names.map fun (n,k)=>if (k==NameKind.free&&env.scope.kind==.function&&env.kindOf n==some .cell) then (n,NameKind.cell) else (n,k)).lookup x=some j→
  ∃k,names.lookup x=some k∧(j=k∨(k=.free∧j=.cell))
 | [],_,_,h=>by simp at h
 | (n,k)::r,x,j,h=>by
  have h':List.lookup x ((if (k==NameKind.free&&env.scope.kind==.function&&env.kindOf n==some .cell)=true then (n,NameKind.cell) else (n,k))::_)=some j:=h
  rw [List.lookup_cons]
  cases hx:x==n with
  | true=>
   refine ⟨k,rfl,?_⟩
   by_cases hc:(k==NameKind.free&&env.scope.kind==.function&&env.kindOf n==some .cell)=true
   ·rw [if_pos hc,List.lookup_cons,hx] at h'
    simp only [Bool.and_eq_true,beq_iff_eq] at hc
    exact .inr ⟨hc.1.1,(Option.some.inj h').symm⟩
   ·rw [if_neg hc,List.lookup_cons,hx] at h'
    exact .inl (Option.some.inj h').symm
  | false=>
   by_cases hc:(k==NameKind.free&&env.scope.kind==.function&&env.kindOf n==some .cell)=true
   ·rw [if_pos hc,List.lookup_cons,hx] at h'
    exact eU h'
   ·rw [if_neg hc,List.lookup_cons,hx] at h'
    exact eU h'
theorem eV {env:Env}:∀{names:List (Str×NameKind)} {x:Str},names.lookup x=some .free→
  (names.map fun (n,k)=>if (k==NameKind.free&&env.scope.kind==.function&&env.kindOf n==some .cell) then (n,NameKind.cell) else (n,k)).lookup x=some .cell∨
  (names.map fun (n,k)=>if (k==NameKind.free&&env.scope.kind==.function&&env.kindOf n==some .cell) then (n,NameKind.cell) else (n,k)).lookup x=some .free
 | [],_,h=>by simp at h
 | (n,k)::r,x,h=>by
  rw [List.map_cons]
  show List.lookup x ((if (k==NameKind.free&&env.scope.kind==.function&&env.kindOf n==some .cell)=true then (n,NameKind.cell) else (n,k))::_)=_∨List.lookup x ((if (k==NameKind.free&&env.scope.kind==.function&&env.kindOf n==some .cell)=true then (n,NameKind.cell) else (n,k))::_)=_
  rw [List.lookup_cons] at h
  cases hx:x==n with
  | true=>
   rw [hx] at h
   have hk:k=.free:=Option.some.inj h
   by_cases hc:(k==NameKind.free&&env.scope.kind==.function&&env.kindOf n==some .cell)=true
   ·rw [if_pos hc,List.lookup_cons,hx];exact .inl rfl
   ·rw [if_neg hc,List.lookup_cons,hx,hk];exact .inr rfl
  | false=>
   rw [hx] at h
   by_cases hc:(k==NameKind.free&&env.scope.kind==.function&&env.kindOf n==some .cell)=true
   ·rw [if_pos hc,List.lookup_cons,hx];exact eV h
   ·rw [if_neg hc,List.lookup_cons,hx];exact eV h
abbrev blk (X:Cx) (N':List Str) (scope:Scope) (C:Addr) (s₃:Shared) (H₃:Hp) (fp:List Addr) (pl:List (Addr×Obj)):Cx:=
 {X with N:=N',s₀:=s₃,H₀:=H₃,env:=compEnvC scope (eI X.env scope.names []) C X.env,outer:=X.stack,ex:=fp,fn:=fun _=>false,calm:=true,pn:=X.pn++pl,xe:=fun _ _=>False}
structure CompScope (X:Cx) (N':List Str) (caps:List (Option Nat)) (scope:Scope):Prop where
 kind:scope.kind=.function
 nocell:∀y∈scope.names,y.2≠.cell
 names:∀y∈scope.names,y.2=.local→scope.names.lookup y.1=some .local
 caught:∀y∈scope.names,y.2=.free→X.env.kindOf y.1=some .cell∨X.env.kindOf y.1=some .free
 len:caps.length=N'.length
 cap:∀(j i:Nat) (x:Str),caps[j]?=some (some i)→N'[j]?=some x→X.N[i]?=some x∧scope.names.lookup x=some .free
 nd:N'.Nodup
def ki (caps:List (Option Nat)) (σ:St):St:=caps.map fun o=>o.bind fun i=>(σ[i]?).join
section
variable {X:Cx} {N':List Str} {caps:List (Option Nat)} {scope:Scope} {pins:List (Addr×Obj)} {σ:St} {H:Hp} {s₃:Shared} {fp:List Addr}
theorem CompScope.has (S:CompScope X N' caps scope) (ok:X.Ok):∀y∈scope.names,y.2=.free→∃c,X.env.cells.lookup y.1=some c:=fun y hy e=>ok.has y.1 (S.caught y hy e)
theorem CompScope.look (S:CompScope X N' caps scope) (ok:X.Ok) {x:Str} {c:Addr} (h:(eI X.env scope.names []).lookup x=some c):X.env.cells.lookup x=some c:=
 ir scope.names [] (S.has ok) (fun _ z=>by simp at z) h
theorem Inv.block (S:CompScope X N' caps scope) (I:Inv X pins σ H s₃) (hc:X.calm=true) (hf:∀b∈fp,fm X pins H b) (hlt:∀b∈fp,b < s₃.heap.objs.size) {h₄:Heap} {t₄:Nat} {m₄:Str→Option Value}
  (hn:h₄.Ns s₃.heap.objs.size m₄) (hk:∀b o,s₃.heap.get? b=some o→h₄.get? b=some o):
  Inv (blk X N' scope s₃.heap.objs.size s₃ H fp pins) [] (ki caps σ) H {s₃ with heap:=h₄,toks:=t₄}:=by
 have ok:=I.ok
 have fresh:∀b o,s₃.heap.get? b=some o→b≠s₃.heap.objs.size:=fun b o e=>Nat.ne_of_lt (Heap.lt_size e)
 have cellOk:∀x c,(eI X.env scope.names []).lookup x=some c→∃v,s₃.heap.IsCell c v:=fun x c e=>I.cell x c (S.look ok e)
 refine ⟨⟨ok.mod,?_,ok.glob,ok.blt,Nat.le_refl _,?_,?_,?_,fun _=>ok.hd hc,ok.frames,.inl rfl,?_,I.bs,?_,?_,?_,I.stack,I.pM⟩,rfl,I.bare,Un.kept hk,?_,?_,I.hok.fresh (Nat.le_refl _),?_,?_,I.hok.kept hk,?_⟩
 ·show (relabel scope X.env).kind=.function
  exact S.kind
 ·intro x y c h1 h2
  exact ok.inj x y c (S.look ok h1) (S.look ok h2)
 ·intro x hx
  have hx':(relabel scope X.env).names.lookup x=some .cell∨(relabel scope X.env).names.lookup x=some .free:=hx
  have key:∀j,(relabel scope X.env).names.lookup x=some j→j=.cell∨j=.free→∃c,(eI X.env scope.names []).lookup x=some c:=by
   intro j hj hjk
   obtain ⟨k,hk1,hk2⟩:=eU hj
   have hm:=PySem.mem_of_lookup hk1
   have hkf:k=.free:=by
    rcases hk2 with rfl | ⟨e,_⟩
    ·rcases hjk with rfl | e
     ·exact absurd rfl (S.nocell _ hm)
     ·exact e
    ·exact e
   subst hkf
   exact gR scope.names [] hm
  rcases hx' with h | h
  ·exact key _ h (.inl rfl)
  ·exact key _ h (.inr rfl)
 ·intro x c h _
  exact absurd (show false=true from h) (by decide)
 ·intro b hb
  refine ⟨Nat.ne_of_lt (hlt b hb),fun x c h=>(hf b hb).2.2.2.2.1 x c (S.look ok h)⟩
 ·exact Nat.le_trans ok.bsz I.sz
 ·intro b o e hb
  rcases (hf b hb).2.2.2.1 with z | z
  ·exact ok.noex b o e z
  ·exact absurd (Nat.lt_of_lt_of_le (Heap.lt_size e) ok.bsz) (Nat.not_lt.mpr z)
 ·intro b hb z
  rcases List.mem_cons.mp (I.i9 b z) with e | e
  ·exact (hf b hb).2.1 e
  ·exact (hf b hb).2.2.1 e
 ·refine ⟨m₄,hn,fun j x v e1 e2 e3=>?_⟩
  have e2':(caps.map fun o=>o.bind fun i=>(σ[i]?).join)[j]?=some (some v):=e2
  rw [List.getElem?_map] at e2'
  cases hcj:caps[j]? with
  | none=>rw [hcj] at e2';cases e2'
  | some oi=>
   rw [hcj] at e2'
   have e2'':(oi.bind fun i=>(σ[i]?).join)=some v:=Option.some.inj e2'
   cases oi with
   | none=>cases e2''
   | some i=>
    have hσ:(σ[i]?).join=some v:=e2''
    have hσ':σ[i]?=some (some v):=by
     cases hs:σ[i]? with
     | none=>rw [hs] at hσ;cases hσ
     | some w=>rw [hs] at hσ;rw [show w=some v from hσ]
    obtain ⟨hX,hfr⟩:=S.cap j i x hcj e1
    obtain ⟨m,_,hl⟩:=I.loc
    have hcgt:=S.caught _ (PySem.mem_of_lookup hfr) rfl
    have hvis:Vis X.env.scope x:=by
     rcases hcgt with z | z
     ·exact .inr (.inl z)
     ·exact .inr (.inr z)
    obtain ⟨u,ru,lk⟩:=hl i x v hX hσ' hvis
    refine ⟨u,ru,.inr ⟨?_,?_⟩⟩
    ·exact eV hfr
    ·obtain ⟨c,hcc⟩:=gR (env:=X.env) scope.names [] (PySem.mem_of_lookup hfr)
     refine ⟨c,hcc,?_⟩
     rcases lk with ⟨z,_⟩ | ⟨_,c',hc',hcell⟩
     ·have z':X.env.kindOf x=some .local:=z
      rcases hcgt with q | q
      ·rw [z'] at q;cases q
      ·rw [z'] at q;cases q
     ·have:=S.look I.ok hcc
      rw [this] at hc'
      cases hc'
      obtain ⟨o,ho,hd⟩:=hcell
      exact ⟨o,hk _ _ ho,hd⟩
 ·intro x c h
  obtain ⟨v,o,ho,hd⟩:=cellOk x c h
  exact ⟨v,o,hk _ _ ho,hd⟩
 ·intro x c h
  exact I.freeC x c (S.look ok h)
 ·intro p hp
  have hp':p∈X.pn++pins:=by
   rcases List.mem_append.mp hp with z | z
   ·exact z
   ·cases z
  obtain ⟨e,n,ne,nf,d⟩:=I.pin p hp'
  refine ⟨hk _ _ e,n,fresh _ _ e,fun z=>?_,d⟩
  rcases List.mem_cons.mp (I.i9 p.1 z) with q | q
  ·exact ne q
  ·exact nf q
 ·show (caps.map _).length=N'.length
  rw [List.length_map]
  exact S.len
theorem Inv.pI (S:CompScope X N' caps scope) (I:Inv X pins σ H s₃) (hf:∀b∈fp,fm X pins H b) {τ:St} {H':Hp} {s':Shared} (J:Inv (blk X N' scope s₃.heap.objs.size s₃ H fp pins) [] τ H' s') {h'':Heap}
  (hs:∀b u,b≠s₃.heap.objs.size→s'.heap.get? b=some u→h''.get? b=some u):Inv X pins σ H' {s' with heap:=h''}:=by
 have hC:H' s₃.heap.objs.size=none:=J.free
 have u:Un (frs X.stack) fp H H' s₃.heap h'':=by
  have b:=J.base
  have ne:∀x o,s₃.heap.get? x=some o→x≠s₃.heap.objs.size:=fun x o e=>Nat.ne_of_lt (Heap.lt_size e)
  refine ⟨fun x o e n hx hb=>hs _ _ (ne x o e) (b.keep x o e n hx hb),fun x o e n hx hb=>?_,b.free,fun x o e hb=>?_,b.tups,b.frzs,b.tbls⟩
  ·obtain ⟨sl,q⟩:=b.slot x o e n hx hb
   exact ⟨sl,hs _ _ (ne x o e) q⟩
  ·obtain ⟨o',q⟩:=b.there x o e hb
   exact ⟨o',hs _ _ (ne x o e) q⟩
 exact I.call' (s':={s' with heap:=h''}) (ch:=fp) J.os u (J.hok.off hC hs) J.bare fun b hb=>⟨(hf b hb).2.2.2.1,(hf b hb).2.1,(hf b hb).2.2.2.2.1,(hf b hb).2.2.2.2.2⟩
end
end L2
namespace L2
open PySem PySem.Spec PyProof.Rows
def PIf (X:Cx) (ifs:List Expr) (t:TT):Prop:=
 ∀(pins:List (Addr×Obj)) (s:Shared) (σ:St) (H:Hp) (Q:Bool→Hp→Prop),Inv X pins σ H s→t σ H Q→
  wpAny (model X.prog X.w) X.A (forIn ifs true fun c r=>if r=true then do let ok←isTrue c X.env (eval c X.env);pure (ForInStep.yield ok) else pure (ForInStep.yield r)) (TP X pins σ Q) X.xe s
def fk:TT:=fun _ H Q=>Q true H
theorem uM {X:Cx}:PIf X [] fk:=fun pins s σ H Q I h=>wpAny_tests_nil ⟨H,I,h⟩
theorem uL {X:Cx} {c:Expr} {t:TT} (h:PT X c t):PIf X [c] t:=fun pins s σ H Q I q=>wpAny_tests_one (h pins s σ H Q I q)
def zb (J:It) (g:TG) (tc:TT) (te:TE) (l:Addr) (Q:VK) (τ0:St) (H0:Hp):Prop:=
 ∃W:Nat→Nat→St→Hp→Prop,(∃m,W 0 m τ0 H0)∧∀i m τ H2,W i m τ H2→
  (J.stop i H2∧Q (.ref l) H2)∨(J.go i H2∧∃N:St→Hp→Prop,(∀τ' H',N τ' H'→∃m',m' < m∧W (i+1) m' τ' H')∧∀x H',J.yld i H2 x H'→g x τ H' fun τ2 H3=>
   tc τ2 H3 fun b H4=>if b=true then te τ2 H4 fun y H5=>∃xs,H5 l=some (.lst xs)∧xs.length < sizeLine∧N τ2 (upd H5 l (.lst (xs++[y]))) else N τ2 H4)
def rB (caps:List (Option Nat)) (wi:TI) (g:TG) (tc:TT) (te:TE):TE:=fun σ H Q=>wi σ H fun J H1=>∀l,H1 l=none→zb J g tc te l Q (ki caps σ) (upd H1 l (.lst []))
section
variable {X:Cx} {N':List Str} {caps:List (Option Nat)} {scope:Scope} {tg iter elt:Expr} {ifs:List Expr} {pos:Pos} {wi:TI} {g:TG} {tc:TT} {te:TE}
theorem upE {M:Model} {A:Around} {α:Type} {t:Sem α} {Q:α→Shared→Prop} {E:Value→Shared→Prop} {s:Shared} (h:wpAny M A t Q (fun _ _=>False) s):wpAny M A t Q E s:=wpAny_mono h (fun _ _ q=>q) fun _ _ f=>f.elim
theorem qV (S:CompScope X N' caps scope) (hc:X.calm=true) (hg:∀C s₃ H₃ fp pl,PG (blk X N' scope C s₃ H₃ fp pl) tg g) (hif:∀C s₃ H₃ fp pl,PIf (blk X N' scope C s₃ H₃ fp pl) ifs tc)
  (he:∀C s₃ H₃ fp pl,PE (blk X N' scope C s₃ H₃ fp pl) elt te) {pins:List (Addr×Obj)} {σ:St} {H3:Hp} {s3:Shared} {h₁:Heap} {t₁:Nat} {m₁:Str→Option Value} {it l:Addr} {fp:List Addr} {tn:Nat→Heap→Prop} {J:It}
  (I3:Inv X pins σ H3 s3) (T:Turn X.prog X.w X.K tg J fp it tn) (st3:tn 0 h₁) (hf3:∀b∈fp,fm X pins H3 b) (hlt3:∀b∈fp,b < s3.heap.objs.size) (hns₁:h₁.Ns s3.heap.objs.size m₁) (keep3:∀b o,s3.heap.get? b=some o→h₁.get? b=some o)
  {Q:VK} {RR:Value→Addr→Result→Shared→Prop} {W:Nat→Nat→St→Hp→Prop} {m0:Nat} (w0:W 0 m0 (ki caps σ) H3) (turn:∀i m τ H2,W i m τ H2→
   (J.stop i H2∧Q (.ref l) H2)∨(J.go i H2∧∃N:St→Hp→Prop,(∀τ' H',N τ' H'→∃m',m' < m∧W (i+1) m' τ' H')∧∀x H',J.yld i H2 x H'→g x τ H' fun τ2 H3=>
    tc τ2 H3 fun b H4=>if b=true then te τ2 H4 fun y H5=>∃xs,H5 l=some (.lst xs)∧xs.length < sizeLine∧N τ2 (upd H5 l (.lst (xs++[y]))) else N τ2 H4))
  (hRR:∀(l C:Addr) (H':Hp) (s':Shared),H' C=none→C≠X.env.locals→X.s₀.heap.objs.size≤C→(∀x c,X.env.cells.lookup x=some c→c≠C)→(∀p∈X.pn++pins,p.1≠C)→(∃m,s'.heap.Ns C m)→Inv X pins σ H' s'→
   (∀h'':Heap,(∀b u,b≠C→s'.heap.get? b=some u→h''.get? b=some u)→Inv X pins σ H' {s' with heap:=h''})→Q (.ref l) H'→RR (.ref l) C (.ok .next) s'):
  codeAny (model X.prog X.w) X.A (.compStart (.ListComp elt [⟨tg,iter,ifs,0⟩] scope pos) 0 (.ref it) (.ref l) (compEnvC scope (eI X.env scope.names []) s3.heap.objs.size X.env))
   (RR (.ref l) s3.heap.objs.size) {s3 with heap:=h₁,toks:=t₁}:=by
 have J0:Inv (blk X N' scope s3.heap.objs.size s3 H3 fp pins) [] (ki caps σ) H3 {s3 with heap:=h₁,toks:=t₁}:=Inv.block S I3 hc hf3 hlt3 hns₁ keep3
 have fpB:∀{H':Hp},(∀b∈fp,H' b=none)→∀b∈fp,fm (blk X N' scope s3.heap.objs.size s3 H3 fp pins) [] H' b:=fun {H'} hn b hb=>by
  obtain ⟨f0,f1,f2,f3,f4,f5⟩:=hf3 b hb
  refine ⟨hn b hb,Nat.ne_of_lt (hlt3 b hb),fun z=>?_,.inl hb,fun x c e=>f4 x c (S.look I3.ok e),fun p hp=>?_⟩
  ·rcases List.mem_cons.mp (I3.i9 b z) with q | q
   ·exact f1 q
   ·exact f2 q
  ·rcases List.mem_append.mp hp with q | q
   ·exact f5 p q
   ·cases q
 have fin:∀{τ:St} {H':Hp} {s':Shared},Inv (blk X N' scope s3.heap.objs.size s3 H3 fp pins) [] τ H' s'→Q (.ref l) H'→RR (.ref l) s3.heap.objs.size (.ok .next) s':=fun {τ H' s'} J q=>by
  refine hRR _ _ H' s' J.free ?_ ?_ ?_ ?_ ?_ ?_ ?_ q
  ·exact (Nat.ne_of_lt I3.lt).symm
  ·exact I3.sz
  ·intro x c e z
   obtain ⟨v,o,ho,_⟩:=I3.cell x c e
   exact Nat.ne_of_lt (Heap.lt_size ho) z
  ·intro p hp z
   obtain ⟨e,_⟩:=I3.pin p hp
   exact Nat.ne_of_lt (Heap.lt_size e) z
  ·obtain ⟨m,hm,_⟩:=J.loc
   exact ⟨m,hm⟩
  ·have:=Inv.pI S I3 hf3 J (h'':=s'.heap) fun b u _ e=>e
   exact this
  ·exact fun h'' hs=>Inv.pI S I3 hf3 J hs
 have loop:codeAny (model X.prog X.w) X.A (.compLoop (.ListComp elt [⟨tg,iter,ifs,0⟩] scope pos) 0 (.ref it) (.ref l) (compEnvC scope (eI X.env scope.names []) s3.heap.objs.size X.env))
   (RR (.ref l) s3.heap.objs.size) {s3 with heap:=h₁,toks:=t₁}:=by
  refine codeAny_loop rfl (fun n s'=>∃i τ H',Inv (blk X N' scope s3.heap.objs.size s3 H3 fp pins) [] τ H' s'∧tn i s'.heap∧(∀b∈fp,H' b=none)∧W i n τ H') ?_ m0 ⟨0,_,_,J0,st3,fun b hb=>(hf3 b hb).1,w0⟩
  rintro n s4 ⟨i,τ,H4,J4,st4,fr4,w4⟩
  show wpAny _ X.A ((compTurn (.ListComp elt [⟨tg,iter,ifs,0⟩] scope pos) 0 (.ref it) (.ref l) (compEnvC scope (eI X.env scope.names []) s3.heap.objs.size X.env)).onRaise (fun x=>do noteFrame x (compEnvC scope (eI X.env scope.names []) s3.heap.objs.size X.env);theTreesLotGoes x)) _ _ s4
  refine wpAny_noted ?_
  rw [compTurn_list]
  rcases turn i n τ H4 w4 with ⟨stop,qn⟩ | ⟨go,N,hN,step⟩
  ·refine wpAny_bind (wpAny_standAt (wpAny_bind (wpAny_mono (T.done (blk X N' scope s3.heap.objs.size s3 H3 fp pins) rfl rfl rfl rfl i [] s4 τ H4 _ J4 (fpB fr4) st4 stop) (fun r s5 h5=>?_) fun _ _ e=>e)))
   obtain ⟨hr,J5⟩:=h5
   subst hr
   exact wpAny_pure (fin J5 qn)
  ·refine wpAny_bind (wpAny_standAt (wpAny_bind (wpAny_mono (T.item (blk X N' scope s3.heap.objs.size s3 H3 fp pins) rfl rfl rfl rfl i [] s4 τ H4 _ J4 (fpB fr4) st4 go) (fun r s5 h5=>?_) fun _ _ e=>e)))
   obtain ⟨u,hr,h5⟩:=h5
   subst hr
   refine wpAny_bind (wpAny_mono h5 (fun _ s6 h6=>?_) fun _ _ e=>e)
   obtain ⟨x,H6,J6,r6,y6,st6,fr6⟩:=h6
   have J6':=J6.pinned (fpB fr6) (T.obj _ _ st6)
   refine wpAny_bind (wpAny_mono (upE (hg _ _ _ _ _ _ s6 τ H6 x u _ J6' r6 (step x H6 y6))) (fun _ s7 h7=>?_) fun _ _ e=>e)
   obtain ⟨τ7,H7,J7,q7⟩:=h7
   have again:∀{τ8:St} {H8:Hp} {s8:Shared},Inv (blk X N' scope s3.heap.objs.size s3 H3 fp pins) ([]++jq fp s6.heap) τ8 H8 s8→N τ8 H8→
     ∃m,m < n∧∃i τ' H',Inv (blk X N' scope s3.heap.objs.size s3 H3 fp pins) [] τ' H' s8∧tn i s8.heap∧(∀b∈fp,H' b=none)∧W i m τ' H':=fun {τ8 H8 s8} J8 n8=>by
    obtain ⟨m',hm,w8⟩:=hN τ8 H8 n8
    refine ⟨m',hm,i+1,τ8,H8,J8.gz,T.keep _ _ _ st6 fun b hb o e=>(J8.pin (b,o) (List.mem_append_right _ (List.mem_append_right _ (eY hb e)))).1,fun b hb=>?_,w8⟩
    obtain ⟨o,e,d⟩:=T.obj _ _ st6 b hb
    exact (J8.pin (b,o) (List.mem_append_right _ (List.mem_append_right _ (eY hb e)))).2.1
   refine wpAny_bind (wpAny_mono (upE (hif _ _ _ _ _ _ s7 τ7 H7 _ J7 q7)) (fun ok s8 h8=>?_) fun _ _ e=>e)
   obtain ⟨H8,J8,q8⟩:=h8
   cases ok with
   | false=>exact wpAny_pure ⟨rfl,again J8 (by simpa using q8)⟩
   | true=>
    have q8':te τ7 H8 fun y H5=>∃xs,H5 l=some (.lst xs)∧xs.length < sizeLine∧N τ7 (upd H5 l (.lst (xs++[y]))):=by simpa using q8
    refine wpAny_bind (wpAny_bind (wpAny_mono (upE (he _ _ _ _ _ _ s8 τ7 H8 _ J8 q8')) (fun y s9 h9=>?_) fun _ _ e=>e))
    obtain ⟨yv,H9,J9,r9,xs,hx,hz,n9⟩:=h9
    refine wpAny_bind (wpAny_mono (upE (kN (X:=blk X N' scope s3.heap.objs.size s3 H3 fp pins) _ s9 τ7 H9 (.ref l) [yv] (.ref l) [y] (fun _ H'=>N τ7 H') J9 rfl (.cons r9 .nil) ⟨_,xs,yv,rfl,rfl,hx,hz,n9⟩)) (fun _ s10 h10=>?_) fun _ _ e=>e)
    obtain ⟨_,H10,J10,_,n10⟩:=h10
    exact wpAny_pure (wpAny_pure ⟨rfl,again J10 n10⟩)
 exact codeAny_compStart_list loop (T.self X.A 0 _ _ _ st3 loop)
theorem jH (S:CompScope X N' caps scope) (hc:X.calm=true) (hg:∀C s₃ H₃ fp pl,PG (blk X N' scope C s₃ H₃ fp pl) tg g) (hif:∀C s₃ H₃ fp pl,PIf (blk X N' scope C s₃ H₃ fp pl) ifs tc)
  (he:∀C s₃ H₃ fp pl,PE (blk X N' scope C s₃ H₃ fp pl) elt te) {pins:List (Addr×Obj)} {σ:St} {H:Hp} {s:Shared} {it:Addr} {fp:List Addr} {tn:Nat→Heap→Prop} {J:It}
  (I:Inv X pins σ H s) (T:Turn X.prog X.w X.K tg J fp it tn) (st:tn 0 s.heap) (hf:∀b∈fp,fm X pins H b) {Q:VK} {RR:Value→Addr→Result→Shared→Prop} {E:Value→Shared→Prop}
  (h:∀l,H l=none→∃W:Nat→Nat→St→Hp→Prop,(∃m,W 0 m (ki caps σ) (upd H l (.lst [])))∧∀i m τ H2,W i m τ H2→
   (J.stop i H2∧Q (.ref l) H2)∨(J.go i H2∧∃N:St→Hp→Prop,(∀τ' H',N τ' H'→∃m',m' < m∧W (i+1) m' τ' H')∧∀x H',J.yld i H2 x H'→g x τ H' fun τ2 H3=>
    tc τ2 H3 fun b H4=>if b=true then te τ2 H4 fun y H5=>∃xs,H5 l=some (.lst xs)∧xs.length < sizeLine∧N τ2 (upd H5 l (.lst (xs++[y]))) else N τ2 H4))
  (hRR:∀(l C:Addr) (H':Hp) (s':Shared),H' C=none→C≠X.env.locals→X.s₀.heap.objs.size≤C→(∀x c,X.env.cells.lookup x=some c→c≠C)→(∀p∈X.pn++pins,p.1≠C)→(∃m,s'.heap.Ns C m)→Inv X pins σ H' s'→
   (∀h'':Heap,(∀b u,b≠C→s'.heap.get? b=some u→h''.get? b=some u)→Inv X pins σ H' {s' with heap:=h''})→Q (.ref l) H'→RR (.ref l) C (.ok .next) s'):
  wpAny (model X.prog X.w) X.A (newList []) (fun acc s₃=>wpAny (model X.prog X.w) X.A (newFunctionEnv scope X.env.globals (eI X.env scope.names []) [] X.env.qual none .none (some X.env)) (fun cenv s₄=>
   codeAny (model X.prog X.w) X.A (.compStart (.ListComp elt [⟨tg,iter,ifs,0⟩] scope pos) 0 (.ref it) acc {cenv with scope:=relabel scope X.env}) (RR acc cenv.locals) s₄) E s₃) E s:=by
 obtain ⟨W,⟨m0,w0⟩,turn⟩:=h s.heap.objs.size I.fresh
 refine wpAny_newObj_type (wpAny_newFunctionEnv S.nocell (by intro y hy;simp at hy) (fun h₁ hns₁ hsb₁=>?_) S.kind)
 have I3:Inv X pins σ (upd H s.heap.objs.size (.lst [])) {s with heap:=s.heap.push {cls:=.type "list",data:=.seq ([]:List Value).toArray}}:=I.xr (t':=s.toks) (its:=[]) (ys:=[]) .nil (Nat.zero_le _)
 have hltf:∀b∈fp,b < s.heap.objs.size:=fun b hb=>by
  obtain ⟨o,e,_⟩:=T.obj 0 _ st b hb
  exact Heap.lt_size e
 have hf3:∀b∈fp,fm X pins (upd H s.heap.objs.size (.lst [])) b:=fun b hb=>⟨by rw [aD (Nat.ne_of_lt (hltf b hb))];exact (hf b hb).1,(hf b hb).2⟩
 have keep3:∀b o,(s.heap.push {cls:=.type "list",data:=.seq ([]:List Value).toArray}).get? b=some o→h₁.get? b=some o:=fun b o e=>hsb₁.extBut b o (Nat.ne_of_lt (Heap.lt_size e)) (Heap.get?_push_of_some _ e)
 have st3:tn 0 h₁:=T.keep 0 _ _ st fun b hb o e=>keep3 b o (Heap.get?_push_of_some _ e)
 have hlt3:∀b∈fp,b < (s.heap.push {cls:=.type "list",data:=.seq ([]:List Value).toArray}).objs.size:=fun b hb=>by
  have:=hltf b hb
  rw [Heap.size_push]
  exact Nat.lt_succ_of_lt this
 exact qV (s3:={s with heap:=s.heap.push {cls:=.type "list",data:=.seq ([]:List Value).toArray}}) S hc hg hif he I3 T st3 hf3 hlt3 hns₁ keep3 w0 turn hRR
theorem sx (S:CompScope X N' caps scope) (hc:X.calm=true) (hi:PI X tg iter wi) (hg:∀C s₃ H₃ fp pl,PG (blk X N' scope C s₃ H₃ fp pl) tg g) (hif:∀C s₃ H₃ fp pl,PIf (blk X N' scope C s₃ H₃ fp pl) ifs tc)
  (he:∀C s₃ H₃ fp pl,PE (blk X N' scope C s₃ H₃ fp pl) elt te) (hs:∀x,foldedSetIterable iter X.env x=pure x:=by intro _;rfl):PE X (.ListComp elt [⟨tg,iter,ifs,0⟩] scope pos) (rB caps wi g tc te):=by
 intro pins s σ H Q I h
 rw [eval_ListComp]
 refine wpAny_comprehension_free (use:=none) rfl hs (jK (S.has I.ok)) S.kind S.names (thn (hi pins s σ H _ I h) fun v s1 h1=>thn h1 fun itv s2 h2=>?_)
 obtain ⟨it,fp,tn,J,H2,e,I2,T,st2,f2,hQ⟩:=h2
 subst e
 refine jH (RR:=fun acc C=>compPost (model X.prog X.w) X.A X.xe none (EP X pins σ Q) acc C) S hc hg hif he I2 T st2 f2 hQ ?_
 intro l C H' s' _ _ _ _ _ hm _ hI q
 obtain ⟨m,hm⟩:=hm
 exact ⟨m,hm,fun h'' hs''=>⟨.ref l,H',hI h'' fun b u hb e=>hs''.extBut b u hb e,rfl,q⟩⟩
theorem sj {i:Nat} {y:Str} {py spos:Pos} (hN:X.N.Nodup) (hi':X.N[i]?=some y) (hy:X.env.scope.names.lookup y=some .local) (S:CompScope X N' caps scope) (hc:X.calm=true) (hi:PI X tg iter wi)
  (hg:∀C s₃ H₃ fp pl,PG (blk X N' scope C s₃ H₃ fp pl) tg g) (hif:∀C s₃ H₃ fp pl,PIf (blk X N' scope C s₃ H₃ fp pl) ifs tc)
  (he:∀C s₃ H₃ fp pl,PE (blk X N' scope C s₃ H₃ fp pl) elt te)
  (hsw:swapsWith (.ListComp elt [⟨tg,iter,ifs,0⟩] scope pos) (some (.Name y py)) spos.line X.env=pure true:=by rfl) (hs:∀x,foldedSetIterable iter X.env x=pure x:=by intro _;rfl):
  PS X (.Assign [.Name y py] (.ListComp elt [⟨tg,iter,ifs,0⟩] scope pos) spos) (ud (rB caps wi g tc te) (n4 i)):=by
 intro pins s σ H D I h
 rw [exec_Assign_Name_used _ _ _ _ hsw]
 refine wpAny_bind (wpAny_standAt (wpAny_bind ?_))
 show wpAny _ X.A (do let _←comprehension (.ListComp elt [⟨tg,iter,ifs,0⟩] scope pos) scope X.env _ (newList []) false (eval iter X.env) (some (assign (.Name y py) X.env))) _ _ s
 refine wpAny_bind (wpAny_mono (wpAny_comprehension_free (use:=some (assign (.Name y py) X.env)) (Q:=fun _ s'=>SP X pins D .next s') rfl hs (jK (S.has I.ok)) S.kind S.names
  (thn (hi pins s σ H _ I h) fun v s1 h1=>thn h1 fun itv s2 h2=>?_)) (fun _ s' hq=>wpAny_pure (wpAny_pure hq)) fun _ _ e=>e)
 obtain ⟨it,fp,tn,J,H2,e,I2,T,st2,f2,hQ⟩:=h2
 subst e
 refine jH (Q:=fun x H1=>n4 i x σ H1 D.nx) (RR:=fun acc C=>compPost (model X.prog X.w) X.A X.xe (some (assign (.Name y py) X.env)) (fun _ s'=>SP X pins D .next s') acc C) S hc hg hif he I2 T st2 f2 hQ ?_
 intro l C H' s' hC hCL hC0 hCc hCp hm hI0 hI q
 obtain ⟨m,hm⟩:=hm
 show wpAny _ X.A (assign (.Name y py) X.env (.ref l)) _ _ s'
 refine wpAny_assign_Name (kC (v:=.ref l) hI0 hN hi' (.inl hy) rfl (fun s5 I5 hch=>?_) (.inr hy))
 obtain ⟨a,hsa,ha⟩:=hch
 have hCa:C≠a:=by
  rcases ha with z | z
  ·rw [z];exact hCL
  ·exact (hCc _ _ z).symm
 refine ⟨m,hm.sameBut hsa hCa,fun h'' hs''=>?_⟩
 have I6:=I5.turned (t':=s5.toks) (h':=h'') (it:=C) (fun b o hb e=>hs''.extBut b o hb e) hC hCL (.inr hC0) hCc hCp
 exact ⟨_,H',I6,q⟩
end
end L2
namespace L2
open PySem PySem.Spec PyProof.Rows
def zc (_ j:Int):Prop:=0 < j∧j≤10^40
theorem log2_small {n:Nat} (h:n≤10^40):n.log2 < 9000:=by
 by_cases h0:n=0
 ·rw [h0];decide
 ·refine (Nat.log2_lt h0).mpr (Nat.lt_of_le_of_lt h ?_)
  exact Nat.lt_of_lt_of_le (show 10^40 < 2^200 by decide) (Nat.pow_le_pow_right (by decide) (by decide))
section
variable {X:Cx}
theorem sG:OpR X (binaryOp .FloorDiv) (rI zc fun i j=>.int (i / j)):=opI fun i j _ _ _ _ _ hc q=>by
 have h1:(0:Int) < j:=hc.1
 have h2:j≤10^40:=hc.2
 exact floordiv_int (by omega) (by rw [Int.fdiv_eq_ediv_of_nonneg i (by omega)];exact q) (.inl (PyProof.noPylong_of_log2 (log2_small (by omega))))
mutual
inductive Rds (K:PySem.W.Frag) (H:Hp):V→PyData→Prop where
 | non:Rds K H .non .none
 | bl (b:Bool):Rds K H (.bl b) (.bool b)
 | int (i:Int):Rds K H (.int i) (.int i)
 | str (x:Str):Rds K H (.str x) (.str x)
 | tup {a:Addr} {xs:List V} {ds:List PyData}:SqT K H a xs→RdsL K H xs ds→Rds K H (.ref a) (.tuple ds)
 | lst {a:Addr} {xs:List V} {ds:List PyData}:SqL K H a xs→RdsL K H xs ds→Rds K H (.ref a) (.list ds)
inductive RdsL (K:PySem.W.Frag) (H:Hp):List V→List PyData→Prop where
 | nil:RdsL K H [] []
 | cons {x:V} {xs:List V} {d:PyData} {ds:List PyData}:Rds K H x d→RdsL K H xs ds→RdsL K H (x::xs) (d::ds)
end
variable {pins:List (Addr×Obj)} {σ:St} {H:Hp} {s:Shared}
mutual
theorem Rds.reads (I:Inv X pins σ H s):∀{x:V} {u:Value} {d:PyData},Rds X.K H x d→RelV x u→∃as,Reads s.heap u d as
 | _,_,_,.non,r=>by cases (show _=Value.none from r);exact ⟨_,.none⟩
 | _,_,_,.bl b,r=>by cases (show _=Value.bool b from r);exact ⟨_,.bool b⟩
 | _,_,_,.int i,r=>by obtain ⟨t,e⟩:=(show ∃t,_=Value.int i t from r);cases e;exact ⟨_,.int i t⟩
 | _,_,_,.str x,r=>by obtain ⟨t,e⟩:=(show ∃t,_=Value.str x t from r);cases e;exact ⟨_,.str x t⟩
 | _,_,_,.tup (a:=a) hq hl,r=>by
  cases (show _=Value.ref a from r)
  obtain ⟨its,rv,⟨o,h1,h2,n,h3⟩,_⟩:=I.tuple hq
  obtain ⟨as,q⟩:=RdsL.reads I hl rv
  exact ⟨_,.tuple h1 h2 h3 (by simpa using q)⟩
 | _,_,_,.lst (a:=a) hq hl,r=>by
  cases (show _=Value.ref a from r)
  obtain ⟨its,rv,pl,_⟩:=I.list hq
  obtain ⟨o,h1,h2,n,h3⟩:=pl.isList
  obtain ⟨as,q⟩:=RdsL.reads I hl rv
  exact ⟨_,.list h1 h2 h3 (by simpa using q)⟩
theorem RdsL.reads (I:Inv X pins σ H s):∀{xs:List V} {us:List Value} {ds:List PyData},RdsL X.K H xs ds→Vals xs us→∃as,ReadsAll s.heap us ds as
 | _,_,_,.nil,.nil=>⟨_,.nil⟩
 | _,_,_,.cons h t,.cons r q=>by
  obtain ⟨as,p⟩:=Rds.reads I h r
  obtain ⟨bs,p'⟩:=RdsL.reads I t q
  exact ⟨_,.cons p p'⟩
end
def zJ:V→Option Int→Option Int→Hp→VK→Prop:=fun x lo hi H Q=>∃z,x=.str z∧z.length≤sizeLine∧Q (.str (Txt.slice z lo hi)) H
theorem vN:SlR X zJ:=by
 intro pins s σ H x v vl vu lo hi sl Q I rx hs pl pu h
 obtain ⟨z,rfl,hz,q⟩:=h
 obtain ⟨t,rfl⟩:=(show ∃t,v=Value.str z t from rx)
 refine ⟨"str",_,F.slot_str_getitem.lookup,typeIs_str _ _ _,?_⟩
 obtain ⟨o,h1,h2,h3⟩:=hs
 have fin:(Txt.slice z lo hi).length≤sizeLine∧∀t' k,EP X pins σ Q (.str (Txt.slice z lo hi) t') {s with toks:=k}:=⟨Nat.le_trans (Txt.slice_le z _ _) hz,fun t' k=>⟨.str _,H,I.tok k,⟨t',rfl⟩,q⟩⟩
 cases pl with
 | none=>
  cases pu with
  | none=>exact wpAny_getItem_str_slice (l:=none) (u:=none) (st:=none) ⟨o,h1,h2,h3⟩ rfl (post_val_or_str fin)
  | int j uj=>exact wpAny_getItem_str_slice (l:=none) (u:=some (j,uj)) (st:=none) ⟨o,h1,h2,h3⟩ rfl (post_val_or_str fin)
 | int i ui=>
  cases pu with
  | none=>exact wpAny_getItem_str_slice (l:=some (i,ui)) (u:=none) (st:=none) ⟨o,h1,h2,h3⟩ rfl (post_val_or_str fin)
  | int j uj=>exact wpAny_getItem_str_slice (l:=some (i,ui)) (u:=some (j,uj)) (st:=none) ⟨o,h1,h2,h3⟩ rfl (post_val_or_str fin)
theorem tR:dZ X (.builtin "isinstance") (fun xs H Q=>∃x n t b,xs=[x,.ty n]∧TyOf X.K H x t∧PySem.W.kitOne X.K t (.type n)=some b∧Q (.bl b) H):=by
 intro pins s σ H xs us Q I r h
 obtain ⟨x,n,t,b,rfl,ty,e,q⟩:=h
 obtain ⟨u,w',rfl,ru,rw'⟩:=vals2 r
 cases (show w'=Value.type n from rw')
 exact qJ I ru ty e fun tk=>⟨.bl b,H,I.tok tk,rfl,q⟩
end
end L2
namespace L2
open PySem PySem.Spec PyProof.Rows
end L2
namespace L2
open PySem PySem.Spec PyProof.Rows
section
variable {X:Cx}
end
end L2
namespace L2
open PySem PySem.Spec PyProof.Rows
section
variable {g:TG} {tc:TT} {te:TE} {l:Addr} {Q:VK} {τ0:St} {H0:Hp}
end
end L2
namespace L2
open PySem PySem.Spec PyProof.Rows
def nW (out:List (Str×NameKind)) (N N':List Str) (caps:List (Option Nat)) (scope:Scope):Bool:=
 decide (scope.kind=.function)&&scope.names.all (fun y=>decide (y.2≠.cell))&&scope.names.all (fun y=>!decide (y.2=.local)||decide (scope.names.lookup y.1=some .local))&&
 scope.names.all (fun y=>!decide (y.2=.free)||decide (out.lookup y.1=some .cell)||decide (out.lookup y.1=some .free))&&decide (caps.length=N'.length)&&
 (List.range caps.length).all (fun j=>match caps[j]?,N'[j]? with
  | some (some i),some x=>decide (N[i]?=some x)&&decide (scope.names.lookup x=some .free)
  | _,_=>true)&&decide N'.Nodup
theorem bD {X:Cx} {N':List Str} {caps:List (Option Nat)} {scope:Scope} (h:nW X.env.scope.names X.N N' caps scope=true):CompScope X N' caps scope:=by
 unfold nW at h
 simp only [Bool.and_eq_true,decide_eq_true_eq,List.all_eq_true,Bool.or_eq_true,Bool.not_eq_true',decide_eq_false_iff_not] at h
 obtain ⟨⟨⟨⟨⟨⟨h1,h2⟩,h3⟩,h4⟩,h5⟩,h6⟩,h7⟩:=h
 refine ⟨h1,h2,fun y hy e=>?_,fun y hy e=>?_,h5,fun j i x hj hx=>?_,h7⟩
 ·rcases h3 y hy with z | z
  ·exact absurd e z
  ·exact z
 ·rcases h4 y hy with (z | z) | z
  ·exact absurd e z
  ·exact .inl z
  ·exact .inr z
 ·have hlt:j < caps.length:=(List.getElem?_eq_some_iff.mp hj).1
  have:=h6 j (List.mem_range.mpr hlt)
  rw [hj,hx] at this
  simp only [Bool.and_eq_true,decide_eq_true_eq] at this
  exact this
end L2
namespace L2
end L2
namespace L2
open PySem PySem.Spec PyProof.Rows
theorem gY {x:Str}:PyData.strOk x=true↔∀c∈x.cps,c < 0x110000:=by
 unfold PyData.strOk
 rw [Array.all_eq_true_iff_forall_mem]
 simp
theorem qk {a b:Str} (ha:PyData.strOk a=true) (hb:PyData.strOk b=true):PyData.strOk (a++b)=true:=by
 rw [gY] at*
 intro c hc
 have hc':c∈a.cps++b.cps:=hc
 rcases Array.mem_append.mp hc' with z | z
 ·exact ha c z
 ·exact hb c z
theorem nC {x:Str} (l u:Option Int) (h:PyData.strOk x=true):PyData.strOk (Txt.slice x l u)=true:=by
 unfold Txt.slice
 split
 ·exact h
 ·rw [gY] at*
  intro c hc
  have hc':c∈(List.filterMap (x.cps[·]?) (Builtin.Str.strSliceIndices l u 1 x.length)).toArray:=hc
  rw [List.mem_toArray] at hc'
  obtain ⟨i,_,e⟩:=List.mem_filterMap.mp hc'
  exact h c (Array.mem_of_getElem? e)
theorem qj {z:Str} {c:Nat} {i:Int} (h:PyData.strOk z=true) (hc:atI z.cps.toList i=some c):PyData.strOk (⟨#[c]⟩:Str)=true:=by
 rw [gY] at*
 intro d hd
 have e:d=c:=by simpa using hd
 subst e
 obtain ⟨j,_,hj,_⟩:=iZ hc
 exact h d (by have:=List.mem_of_getElem? hj;simpa using this)
end L2
namespace L2
open PySem PySem.Spec PyProof.Rows
theorem entry_all_loop:entryFor table "all.loop"=some Builtin.«all.loop»:=entryFor_of_tree (by kernel_rfl)
theorem plain_all_loop:plainId "all.loop"=true:=by decide+kernel
section
variable {X:Cx}
theorem t5 {A:Around} {pins:List (Addr×Obj)} {σ:St} {H:Hp} {p it:Addr} {bs:List Bool} {R:Result→Shared→Prop} (hA:A.handled=none) (hp:SqL X.K H p (bs.map V.bl))
  (hit:it≠X.env.locals∧(it∈X.ex∨X.s₀.heap.objs.size≤it)∧(∀x c,X.env.cells.lookup x=some c→c≠it)∧∀q∈X.pn++pins,q.1≠it) (hin:H it=none)
  (h:∀s',Inv X pins σ H s'→R (.ok (.ret (.bool (bs.all id)))) s'):∀(n i:Nat) (s:Shared),bs.length-i=n→i≤bs.length→(bs.take i).all id=true→s.heap.IsListIter it p i→Inv X pins σ H s→
   codeAny (model X.prog X.w) A (.builtin "all.loop" ⟨[.ref it],[]⟩) R s:=by
 intro n
 induction n with
 | zero=>
  intro i s hn hi ht st I
  have ei:i=bs.length:=by omega
  refine codeAny_builtin entry_all_loop ?_
  rw [Around.under_plainId plain_all_loop _]
  obtain ⟨its,rv,pl,hz⟩:=I.list hp
  have hl':=rv.length
  rw [List.length_map] at hl'
  show wpAny _ _ (pyNext (.ref it) >>=_) _ _ s
  refine wpAny_bind (wpAny_pyNext_list_end hA st pl.isList (by simp;omega) fun h' eb=>?_)
  have I':=I.turned (t':=s.toks) (h':=h') (it:=it) (fun b o hb e=>eb b o hb e) hin hit.1 hit.2.1 hit.2.2.1 hit.2.2.2
  refine wpAny_bind (wpAny_rule (wpAny_pure ?_))
  rw [ei,List.take_length] at ht
  have:=h _ I'
  rw [ht] at this
  exact this
 | succ n ih=>
  intro i s hn hi ht st I
  have hi':i < bs.length:=by omega
  refine codeAny_builtin entry_all_loop ?_
  rw [Around.under_plainId plain_all_loop _]
  obtain ⟨its,rv,pl,hz⟩:=I.list hp
  have hyi:(bs.map V.bl)[i]?=some (.bl bs[i]):=by rw [List.getElem?_map,List.getElem?_eq_getElem hi'];rfl
  obtain ⟨u,hu,ru⟩:=rv.get hyi
  cases (show u=Value.bool bs[i] from ru)
  show wpAny _ _ (pyNext (.ref it) >>=_) _ _ s
  refine wpAny_bind (wpAny_pyNext_list_item st pl.isList (x:=.bool bs[i]) (by simpa using hu) fun h' st' sb=>?_)
  have I':=I.turned (t':=s.toks) (h':=h') (it:=it) (fun b o hb e=>(sb.2 b hb).trans e) hin hit.1 hit.2.1 hit.2.2.1 hit.2.2.2
  dsimp only
  refine wpAny_bind (wpAny_holding (wpAny_truthy_bool ?_))
  refine wpAny_bind (wpAny_letGo ?_)
  by_cases hb:bs[i]=true
  ·rw [if_pos hb]
   refine wpAny_pure ⟨plainId_quiet plain_all_loop _,ih (i+1) _ (by omega) (by omega) ?_ st' I'⟩
   rw [List.take_succ,List.getElem?_eq_getElem hi',List.all_append,ht,hb]
   rfl
  ·rw [if_neg hb]
   refine wpAny_bind (wpAny_rule (wpAny_pure ?_))
   have:=h _ I'
   have e:bs.all id=false:=by
    rw [List.all_eq_false]
    exact ⟨bs[i],List.getElem_mem hi',by simpa using hb⟩
   rw [e] at this
   exact this
theorem tS (hc:X.calm=true):dZ X (.builtin "all") (fun xs H Q=>∃(p:Addr) (bs:List Bool),xs=[.ref p]∧SqL X.K H p (bs.map V.bl)∧Q (.bl (bs.all id)) H):=by
 intro pins s σ H xs us Q I r h
 obtain ⟨p,bs,rfl,hp,q⟩:=h
 obtain ⟨u,rfl,ru⟩:=vals1 r
 cases (show u=Value.ref p from ru)
 have hA:X.A.handled=none:=I.ok.hd hc
 obtain ⟨its,rv,pl,hz⟩:=I.list hp
 refine call_function_tree F.kind_all F.plain_all F.entry_all (F.args_all1 _) ?_
 unfold Builtin.«all»
 show wpAny _ _ (pyIter (.ref p) >>=_) _ _ s
 refine wpAny_bind (wpAny_pyIter_list pl.isList ?_)
 have I3:Inv X pins σ H {s with heap:=s.heap.push {cls:=.type "list_iterator",data:=.fields #[.ref p,.int 0 0]}}:=I.kept (t':=s.toks) fun b o e=>Heap.get?_push_of_some _ e
 obtain ⟨f0,f1,f2,f3,f4,f5⟩:=I.o6 (b:=s.heap.objs.size) (H':=H) (Nat.le_refl _) (I.hok.fresh (Nat.le_refl _))
 refine wpAny_pure ⟨plainId_quiet plain_all_loop _,?_⟩
 exact t5 (X:=X) (σ:=σ) (H:=H) (by exact hA) hp ⟨f1,f3,f4,f5⟩ f0 (fun s' I'=>⟨.bl _,H,I',rfl,q⟩) bs.length 0 _ (by omega) (Nat.zero_le _) rfl ⟨_,Heap.get?_push_size _ rfl,rfl,rfl⟩ I3
end
section
variable {X:Cx}
end
end L2
namespace Sm
open PySem L2
inductive D where
 | non | bl (b:Bool) | int (i:Int) | str (x:Str) | ty (n:String)
 | tup (xs:List D) | lv (xs:List D) | ro (xs:List D) | dv (kvs:List (Key×D)) | ob (n:Nat)
inductive MO where
 | lst (xs:List D) | dct (kvs:List (Key×D))
abbrev MH:=List MO
abbrev DS:=List (Option D)
abbrev noH:Hp:=fun _=>none
structure Ad where
 ob:List Addr
 rs:List Addr
def Ad.has (ρ:Ad) (a:Addr):Prop:=a∈ρ.ob∨a∈ρ.rs
def TupAt (K:PySem.W.Frag) (ρ:Ad) (H:Hp) (a:Addr) (vs:List V):Prop:=(Rd H a (.tup vs)∧¬ρ.has a)∨SqT K noH a vs
def xX (K:PySem.W.Frag) (ρ:Ad) (H:Hp) (a:Addr) (vs:List V):Prop:=(Rd H a (.lst vs)∧¬ρ.has a)∨SqL K noH a vs
mutual
inductive Rep (K:PySem.W.Frag) (ρ:Ad) (H:Hp):V→D→Prop where
 | non:Rep K ρ H .non .non
 | bl (b:Bool):Rep K ρ H (.bl b) (.bl b)
 | int (i:Int):Rep K ρ H (.int i) (.int i)
 | str {x:Str} (h:PyData.strOk x=true):Rep K ρ H (.str x) (.str x)
 | ty (n:String):Rep K ρ H (.ty n) (.ty n)
 | tup {a:Addr} {vs:List V} {ds:List D}:TupAt K ρ H a vs→RepL K ρ H vs ds→Rep K ρ H (.ref a) (.tup ds)
 | lv {a:Addr} {vs:List V} {ds:List D}:H a=some (.lst vs)→¬ρ.has a→RepL K ρ H vs ds→Rep K ρ H (.ref a) (.lv ds)
 | ro {a:Addr} {vs:List V} {ds:List D}:xX K ρ H a vs→RepL K ρ H vs ds→Rep K ρ H (.ref a) (.ro ds)
 | dv {a:Addr} {us:List (Key×V)} {kvs:List (Key×D)}:H a=some (.dK us)→¬ρ.has a→RepK K ρ H us kvs→Rep K ρ H (.ref a) (.dv kvs)
 | ob {a:Addr} {n:Nat}:ρ.ob[n]?=some a→Rep K ρ H (.ref a) (.ob n)
inductive RepL (K:PySem.W.Frag) (ρ:Ad) (H:Hp):List V→List D→Prop where
 | nil:RepL K ρ H [] []
 | cons {v:V} {vs:List V} {d:D} {ds:List D}:Rep K ρ H v d→RepL K ρ H vs ds→RepL K ρ H (v::vs) (d::ds)
inductive RepK (K:PySem.W.Frag) (ρ:Ad) (H:Hp):List (Key×V)→List (Key×D)→Prop where
 | nil:RepK K ρ H [] []
 | cons {k:Key} {v:V} {vs:List (Key×V)} {d:D} {ds:List (Key×D)}:Rep K ρ H v d→RepK K ρ H vs ds→RepK K ρ H ((k,v)::vs) ((k,d)::ds)
end
structure Ch (ρ:Ad) (H:Hp) (ρ':Ad) (H':Hp):Prop where
 pre:∀(n:Nat) a,ρ.ob[n]?=some a→ρ'.ob[n]?=some a
 old:∀b o,¬ρ.has b→H b=some o→¬ρ'.has b∧H' b=some o
theorem Ch.refl (ρ:Ad) (H:Hp):Ch ρ H ρ H:=⟨fun _ _ e=>e,fun _ _ n e=>⟨n,e⟩⟩
theorem Ch.trans {ρ ρ1 ρ2:Ad} {H H1 H2:Hp} (a:Ch ρ H ρ1 H1) (b:Ch ρ1 H1 ρ2 H2):Ch ρ H ρ2 H2:=
 ⟨fun n x e=>b.pre n x (a.pre n x e),fun x o n e=>let ⟨n',e'⟩:=a.old x o n e;b.old x o n' e'⟩
structure Stp (ρ:Ad) (H:Hp) (ρ':Ad) (H':Hp):Prop extends Ch ρ H ρ' H' where
 rs:ρ'.rs=ρ.rs
 res:∀b∈ρ.rs,H' b=H b
theorem Stp.refl (ρ:Ad) (H:Hp):Stp ρ H ρ H:=⟨.refl _ _,rfl,fun _ _=>rfl⟩
theorem Stp.trans {ρ ρ1 ρ2:Ad} {H H1 H2:Hp} (a:Stp ρ H ρ1 H1) (b:Stp ρ1 H1 ρ2 H2):Stp ρ H ρ2 H2:=
 ⟨a.toCh.trans b.toCh,b.rs.trans a.rs,fun x hx=>(b.res x (by rw [a.rs];exact hx)).trans (a.res x hx)⟩
instance {ρ ρ':Ad} {H H':Hp}:CoeOut (Stp ρ H ρ' H') (Ch ρ H ρ' H'):=⟨Stp.toCh⟩
theorem Ch.rd {ρ ρ':Ad} {H H':Hp} {a:Addr} {u:HO} (S:Ch ρ H ρ' H') (h:Rd H a u) (n:¬ρ.has a):Rd H' a u∧¬ρ'.has a:=by
 rcases h with h | ⟨o,h⟩
 ·obtain ⟨q,e⟩:=S.old a _ n h;exact ⟨.inl e,q⟩
 ·obtain ⟨q,e⟩:=S.old a _ n h;exact ⟨.inr ⟨o,e⟩,q⟩
mutual
theorem Rep.mono {K:PySem.W.Frag} {ρ ρ':Ad} {H H':Hp} (S:Ch ρ H ρ' H'):∀{v:V} {d:D},Rep K ρ H v d→Rep K ρ' H' v d
 | _,_,.non=>.non
 | _,_,.bl b=>.bl b
 | _,_,.int i=>.int i
 | _,_,.str x=>.str x
 | _,_,.ty n=>.ty n
 | _,_,.tup h l=>.tup (h.elim (fun ⟨a,n⟩=>.inl (S.rd a n)) .inr) (RepL.mono S l)
 | _,_,.lv h n l=>let ⟨n',h'⟩:=S.old _ _ n h;.lv h' n' (RepL.mono S l)
 | _,_,.ro h l=>.ro (h.elim (fun ⟨a,n⟩=>.inl (S.rd a n)) .inr) (RepL.mono S l)
 | _,_,.dv h n l=>let ⟨n',h'⟩:=S.old _ _ n h;.dv h' n' (RepK.mono S l)
 | _,_,.ob e=>.ob (S.pre _ _ e)
theorem RepL.mono {K:PySem.W.Frag} {ρ ρ':Ad} {H H':Hp} (S:Ch ρ H ρ' H'):∀{vs:List V} {ds:List D},RepL K ρ H vs ds→RepL K ρ' H' vs ds
 | _,_,.nil=>.nil
 | _,_,.cons h t=>.cons (Rep.mono S h) (RepL.mono S t)
theorem RepK.mono {K:PySem.W.Frag} {ρ ρ':Ad} {H H':Hp} (S:Ch ρ H ρ' H'):∀{vs:List (Key×V)} {ds:List (Key×D)},RepK K ρ H vs ds→RepK K ρ' H' vs ds
 | _,_,.nil=>.nil
 | _,_,.cons h t=>.cons (Rep.mono S h) (RepK.mono S t)
end
section
variable {K:PySem.W.Frag} {ρ ρ':Ad} {H H':Hp}
theorem RepL.length:∀{vs:List V} {ds:List D},RepL K ρ H vs ds→vs.length=ds.length
 | _,_,.nil=>rfl
 | _,_,.cons _ t=>by rw [List.length_cons,List.length_cons,RepL.length t]
theorem RepL.got:∀{vs:List V} {ds:List D} {i:Nat} {d:D},RepL K ρ H vs ds→ds[i]?=some d→∃v,vs[i]?=some v∧Rep K ρ H v d
 | _,_,_,_,.nil,e=>by simp at e
 | _,_,0,_,.cons r _,e=>by simp at e;subst e;exact ⟨_,rfl,r⟩
 | _,_,i+1,d,.cons _ t,e=>by
  obtain ⟨u,h1,h2⟩:=RepL.got (i:=i) (d:=d) t (by simpa using e)
  exact ⟨u,by simpa using h1,h2⟩
theorem RepL.append:∀{vs ws:List V} {ds es:List D},RepL K ρ H vs ds→RepL K ρ H ws es→RepL K ρ H (vs++ws) (ds++es)
 | _,_,_,_,.nil,s=>s
 | _,_,_,_,.cons r t,s=>.cons r (RepL.append t s)
theorem RepL.take:∀{vs:List V} {ds:List D} (n:Nat),RepL K ρ H vs ds→RepL K ρ H (vs.take n) (ds.take n)
 | _,_,0,_=>.nil
 | _,_,_+1,.nil=>.nil
 | _,_,n+1,.cons r t=>.cons r (RepL.take n t)
theorem RepL.drop:∀{vs:List V} {ds:List D} (n:Nat),RepL K ρ H vs ds→RepL K ρ H (vs.drop n) (ds.drop n)
 | _,_,0,r=>r
 | _,_,_+1,.nil=>.nil
 | _,_,n+1,.cons _ t=>RepL.drop n t
theorem RepL.set {v:V} {d:D} (r:Rep K ρ H v d):∀{vs:List V} {ds:List D} (i:Nat),RepL K ρ H vs ds→RepL K ρ H (vs.set i v) (ds.set i d)
 | _,_,_,.nil=>.nil
 | _,_,0,.cons _ t=>.cons r t
 | _,_,i+1,.cons q t=>.cons q (RepL.set r i t)
theorem RepL.snoc {v:V} {d:D} {vs:List V} {ds:List D} (t:RepL K ρ H vs ds) (r:Rep K ρ H v d):RepL K ρ H (vs++[v]) (ds++[d]):=t.append (.cons r .nil)
theorem RepL.dropLast:∀{vs:List V} {ds:List D},RepL K ρ H vs ds→RepL K ρ H vs.dropLast ds.dropLast
 | _,_,.nil=>.nil
 | _,_,.cons _ .nil=>.nil
 | _,_,.cons r (.cons q t)=>.cons r (RepL.dropLast (.cons q t))
theorem RepL.isEmpty {vs:List V} {ds:List D} (t:RepL K ρ H vs ds):vs.isEmpty=ds.isEmpty:=by cases t <;> rfl
theorem TupAt.sq {a:Addr} {vs:List V} (h:TupAt K ρ H a vs):SqT K H a vs:=by
 rcases h with ⟨h,_⟩ | h
 ·exact .inl h
 ·rcases h with (h | ⟨o,h⟩) | h
  ·cases h
  ·cases h
  ·exact .inr h
theorem xX.sq {a:Addr} {vs:List V} (h:xX K ρ H a vs):SqL K H a vs:=by
 rcases h with ⟨h,_⟩ | h
 ·exact .inl h
 ·rcases h with (h | ⟨o,h⟩) | h
  ·cases h
  ·cases h
  ·exact .inr h
end
def ObR (K:PySem.W.Frag) (ρ:Ad) (H:Hp) (a:Addr):MO→Prop
 | .lst ds=>∃vs,H a=some (.lst vs)∧RepL K ρ H vs ds
 | .dct kvs=>∃us,H a=some (.dK us)∧RepK K ρ H us kvs
structure Sim (K:PySem.W.Frag) (ρ:Ad) (h:MH) (H:Hp):Prop where
 len:ρ.ob.length=h.length
 nd:ρ.ob.Nodup
 at_:∀(n:Nat) a o,ρ.ob[n]?=some a→h[n]?=some o→ObR K ρ H a o
 rsv:∀b∈ρ.rs,(∃o,H b=some o)∧b∉ρ.ob
section
variable {K:PySem.W.Frag} {ρ ρ':Ad} {H H':Hp} {h:MH}
theorem ObR.has {a:Addr} {o:MO} (x:ObR K ρ H a o):∃u,H a=some u:=by
 cases o with
 | lst ds=>obtain ⟨vs,e,_⟩:=x;exact ⟨_,e⟩
 | dct ds=>obtain ⟨vs,e,_⟩:=x;exact ⟨_,e⟩
theorem ObR.mono {a:Addr} {o:MO} (x:ObR K ρ H a o) (T:Ch ρ H ρ' H') (e:H' a=H a):ObR K ρ' H' a o:=by
 cases o with
 | lst ds=>obtain ⟨vs,x,r⟩:=x;exact ⟨vs,e.trans x,r.mono T⟩
 | dct ds=>obtain ⟨vs,x,r⟩:=x;exact ⟨vs,e.trans x,r.mono T⟩
theorem Sim.mem (S:Sim K ρ h H) {a:Addr} (ha:a∈ρ.ob):∃(n:Nat) (o:MO),ρ.ob[n]?=some a∧h[n]?=some o∧ObR K ρ H a o:=by
 obtain ⟨n,hn,e⟩:=List.mem_iff_getElem.mp ha
 have hn':n < h.length:=by rw [←S.len];exact hn
 have e1:ρ.ob[n]?=some a:=by rw [List.getElem?_eq_getElem hn,e]
 exact ⟨n,h[n],e1,List.getElem?_eq_getElem hn',S.at_ n a _ e1 (List.getElem?_eq_getElem hn')⟩
theorem Sim.has (S:Sim K ρ h H) {a:Addr} (ha:ρ.has a):∃u,H a=some u:=by
 rcases ha with ha | ha
 ·obtain ⟨_,_,_,_,x⟩:=S.mem ha;exact x.has
 ·exact (S.rsv a ha).1
theorem Sim.fresh (S:Sim K ρ h H) {p:Addr} (hp:H p=none):¬ρ.has p:=fun m=>by
 obtain ⟨u,e⟩:=S.has m
 rw [hp] at e;cases e
theorem Stp.laid (S:Sim K ρ h H) {p:Addr} {o:HO} (hp:H p=none):Stp ρ H ρ (upd H p o):=
 ⟨⟨fun _ _ e=>e,fun b u n e=>⟨n,by rw [aD (aQ e hp)];exact e⟩⟩,rfl,fun b hb=>by
  obtain ⟨u,e⟩:=(S.rsv b hb).1
  rw [aD (aQ e hp)]⟩
theorem Sim.same (S:Sim K ρ h H) (T:Stp ρ H ρ H') (k:∀a∈ρ.ob,H' a=H a):Sim K ρ h H':=
 ⟨S.len,S.nd,fun n a o e1 e2=>(S.at_ n a o e1 e2).mono T.toCh (k a (List.mem_of_getElem? e1)),fun b hb=>⟨by rw [T.res b hb];exact (S.rsv b hb).1,(S.rsv b hb).2⟩⟩
theorem Sim.laid (S:Sim K ρ h H) {p:Addr} {o:HO} (hp:H p=none):Sim K ρ h (upd H p o):=
 S.same (Stp.laid S hp) fun a ha=>by
  obtain ⟨u,e⟩:=S.has (.inl ha)
  rw [aD (aQ e hp)]
abbrev Ad.more (ρ:Ad) (p:Addr):Ad:=⟨ρ.ob++[p],ρ.rs⟩
theorem Stp.made (S:Sim K ρ h H) {p:Addr} {o:HO} (hp:H p=none):Stp ρ H (ρ.more p) (upd H p o):=by
 refine ⟨⟨fun n a e=>?_,fun b u n e=>?_⟩,rfl,(Stp.laid S hp).res⟩
 ·show (ρ.ob++[p])[n]?=_
  rw [List.getElem?_append_left (List.getElem?_eq_some_iff.mp e).1];exact e
 ·refine ⟨fun m=>?_,by rw [aD (aQ e hp)];exact e⟩
  rcases m with m | m
  ·rcases List.mem_append.mp m with m | m
   ·exact n (.inl m)
   ·exact aQ e hp (List.mem_singleton.mp m)
  ·exact n (.inr m)
theorem Sim.made (S:Sim K ρ h H) {p:Addr} {u:HO} {o:MO} (hp:H p=none) (ho:ObR K (ρ.more p) (upd H p u) p o):Sim K (ρ.more p) (h++[o]) (upd H p u):=by
 refine ⟨by simp [S.len],?_,fun n a x e1 e2=>?_,fun b hb=>?_⟩
 ·show (ρ.ob++[p]).Nodup
  rw [List.nodup_append]
  refine ⟨S.nd,by simp,fun a ha b hb z=>?_⟩
  rw [List.mem_singleton.mp hb] at z
  exact S.fresh hp (.inl (z ▸ ha))
 ·by_cases hn:n < ρ.ob.length
  ·have e1:(ρ.ob++[p])[n]?=some a:=e1
   rw [List.getElem?_append_left hn] at e1
   rw [List.getElem?_append_left (by rw [←S.len];exact hn)] at e2
   have q:=S.at_ n a x e1 e2
   obtain ⟨w,ew⟩:=q.has
   exact q.mono (Stp.made S hp).toCh (aD (aQ ew hp))
  ·have l1:=(List.getElem?_eq_some_iff.mp e1).1
   simp at l1
   have hn':n=ρ.ob.length:=by omega
   subst hn'
   have e1:(ρ.ob++[p])[ρ.ob.length]?=some a:=e1
   rw [List.getElem?_append_right (Nat.le_refl _)] at e1
   rw [List.getElem?_append_right (by rw [S.len];exact Nat.le_refl _)] at e2
   simp at e1
   rw [S.len] at e2
   simp at e2
   subst e1;subst e2
   exact ho
 ·obtain ⟨⟨v,e⟩,n⟩:=S.rsv b hb
  have z:=aQ e hp
  refine ⟨⟨v,by rw [aD z];exact e⟩,fun m=>?_⟩
  rcases List.mem_append.mp m with m | m
  ·exact n m
  ·exact z (List.mem_singleton.mp m)
theorem Stp.wrote (S:Sim K ρ h H) {a:Addr} {o:HO} (ha:a∈ρ.ob):Stp ρ H ρ (upd H a o):=
 ⟨⟨fun _ _ e=>e,fun b u n e=>⟨n,by rw [aD (fun (z:b=a)=>n (.inl (by rw [z];exact ha)))];exact e⟩⟩,rfl,fun b hb=>aD fun (z:b=a)=>(S.rsv b hb).2 (by rw [z];exact ha)⟩
theorem Sim.wrote (S:Sim K ρ h H) {n:Nat} {a:Addr} {u:HO} {o:MO} (e:ρ.ob[n]?=some a) (ho:ObR K ρ (upd H a u) a o):Sim K ρ (h.set n o) (upd H a u):=by
 have ha:=List.mem_of_getElem? e
 have T:Stp ρ H ρ (upd H a u):=Stp.wrote S ha
 refine ⟨by rw [List.length_set];exact S.len,S.nd,fun m b x e1 e2=>?_,fun b hb=>⟨by rw [T.res b hb];exact (S.rsv b hb).1,(S.rsv b hb).2⟩⟩
 by_cases hm:n=m
 ·subst hm
  have l2:n < h.length:=by rw [←S.len];exact (List.getElem?_eq_some_iff.mp e).1
  rw [e] at e1;cases e1
  rw [List.getElem?_set_self l2] at e2;cases e2
  exact ho
 ·rw [List.getElem?_set_ne hm] at e2
  have q:=S.at_ m b x e1 e2
  have hb:b≠a:=by
   intro z
   subst z
   exact hm ((List.getElem?_inj (List.getElem?_eq_some_iff.mp e).1 S.nd).mp (e.trans e1.symm))
  exact q.mono T.toCh (aD hb)
abbrev Ad.keep (ρ:Ad) (l:Addr):Ad:=⟨ρ.ob,l::ρ.rs⟩
theorem Ch.keep {l:Addr} {o:HO} (hl:H l=none):Ch ρ H (ρ.keep l) (upd H l o):=by
 refine ⟨fun n a e=>e,fun b u n e=>⟨fun m=>?_,by rw [aD (aQ e hl)];exact e⟩⟩
 rcases m with m | m
 ·exact n (.inl m)
 ·rcases List.mem_cons.mp m with m | m
  ·exact aQ e hl m
  ·exact n (.inr m)
theorem Sim.keep (S:Sim K ρ h H) {l:Addr} {o:HO} (hl:H l=none):Sim K (ρ.keep l) h (upd H l o):=by
 refine ⟨S.len,S.nd,fun n a x e1 e2=>?_,fun b hb=>?_⟩
 ·have q:=S.at_ n a x e1 e2
  obtain ⟨w,ew⟩:=q.has
  exact q.mono (Ch.keep hl) (aD (aQ ew hl))
 ·rcases List.mem_cons.mp hb with rfl | hb
  ·exact ⟨⟨_,aS⟩,fun m=>S.fresh hl (.inl m)⟩
  ·obtain ⟨⟨v,e⟩,n⟩:=S.rsv b hb
   exact ⟨⟨v,by rw [aD (aQ e hl)];exact e⟩,n⟩
theorem Ch.put {l:Addr} {o:HO} (hl:l∈ρ.rs):Ch ρ H ρ (upd H l o):=⟨fun n a e=>e,fun b u n e=>⟨n,by rw [aD (fun (z:b=l)=>n (.inr (by rw [z];exact hl)))];exact e⟩⟩
theorem Sim.put (S:Sim K ρ h H) {l:Addr} {o:HO} (hl:l∈ρ.rs):Sim K ρ h (upd H l o):=by
 refine ⟨S.len,S.nd,fun n a x e1 e2=>(S.at_ n a x e1 e2).mono (Ch.put hl) (aD fun (z:a=l)=>(S.rsv l hl).2 (by rw [←z];exact List.mem_of_getElem? e1)),fun b hb=>⟨?_,(S.rsv b hb).2⟩⟩
 by_cases z:b=l
 ·subst z;exact ⟨_,aS⟩
 ·rw [aD z];exact (S.rsv b hb).1
theorem Ch.free {os rs rs':List Addr} {H:Hp} (hs:∀b∈rs',b∈rs):Ch ⟨os,rs⟩ H ⟨os,rs'⟩ H:=⟨fun n a e=>e,fun b u n e=>⟨fun m=>n (m.elim .inl fun m=>.inr (hs b m)),e⟩⟩
theorem Sim.free {os rs rs':List Addr} {H:Hp} (S:Sim K ⟨os,rs⟩ h H) (hs:∀b∈rs',b∈rs):Sim K ⟨os,rs'⟩ h H:=
 ⟨S.len,S.nd,fun n a x e1 e2=>(S.at_ n a x e1 e2).mono (Ch.free hs) rfl,fun b hb=>S.rsv b (hs b hb)⟩
end
structure RepS (K:PySem.W.Frag) (ρ:Ad) (H:Hp) (σ:St) (δ:DS):Prop where
 len:σ.length=δ.length
 at_:∀(i:Nat) d,δ[i]?=some (some d)→∃v,σ[i]?=some (some v)∧Rep K ρ H v d
section
variable {K:PySem.W.Frag} {ρ ρ':Ad} {H H':Hp} {h:MH} {σ:St} {δ:DS}
theorem RepS.mono (R:RepS K ρ H σ δ) (S:Ch ρ H ρ' H'):RepS K ρ' H' σ δ:=⟨R.len,fun i d e=>let ⟨v,a,b⟩:=R.at_ i d e;⟨v,a,b.mono S⟩⟩
theorem RepS.set (R:RepS K ρ H σ δ) {v:V} {d:D} (r:Rep K ρ H v d) (i:Nat):RepS K ρ H (σ.set i (some v)) (δ.set i (some d)):=by
 refine ⟨by rw [List.length_set,List.length_set];exact R.len,fun j e he=>?_⟩
 by_cases hij:i=j
 ·subst hij
  have hl:i < δ.length:=by
   have:=(List.getElem?_eq_some_iff.mp he).1
   rw [List.length_set] at this
   exact this
  rw [List.getElem?_set_self hl] at he
  cases he
  exact ⟨v,by rw [List.getElem?_set_self (by rw [R.len];exact hl)],r⟩
 ·rw [List.getElem?_set_ne hij] at he ⊢
  exact R.at_ j e he
end
abbrev EM:=DS→MH→Option (D×MH)
abbrev TM:=DS→MH→Option (Bool×MH)
abbrev AM:=DS→MH→Option (List D×MH)
inductive Fl where
 | nx | bk | ct | rt (d:D)
abbrev SM:=DS→MH→Option (Fl×DS×MH)
abbrev GM:=D→DS→MH→Option (DS×MH)
abbrev Fn:=List D→MH→Option (D×MH)
inductive PostI (K:PySem.W.Frag) (ρ:Ad) (H:Hp) (h':MH) (d:D) (v:V) (H':Hp):Prop where
 | mk (ρ'):Stp ρ H ρ' H'→Sim K ρ' h' H'→Rep K ρ' H' v d→PostI K ρ H h' d v H'
def c9 (K:PySem.W.Frag) (ρ:Ad) (H:Hp) (h':MH) (d:D):VK:=fun v H'=>PostI K ρ H h' d v H'
inductive TMi (K:PySem.W.Frag) (m:EM) (σ:L2.St) (H:Hp) (Q:VK):Prop where
 | mk (ρ δ h d h'):RepS K ρ H σ δ→Sim K ρ h H→(m δ h=some (d,h'))→(∀v H',c9 K ρ H h' d v H'→Q v H')→TMi K m σ H Q
def tM (K:PySem.W.Frag) (m:EM):TE:=fun σ H Q=>TMi K m σ H Q
inductive TMTi (K:PySem.W.Frag) (m:TM) (σ:L2.St) (H:Hp) (Q:Bool→Hp→Prop):Prop where
 | mk (ρ δ h b h'):RepS K ρ H σ δ→Sim K ρ h H→(m δ h=some (b,h'))→(∀ρ' H',Stp ρ H ρ' H'→Sim K ρ' h' H'→Q b H')→TMTi K m σ H Q
def tMT (K:PySem.W.Frag) (m:TM):TT:=fun σ H Q=>TMTi K m σ H Q
inductive TMAi (K:PySem.W.Frag) (m:AM) (σ:L2.St) (H:Hp) (Q:List V→Hp→Prop):Prop where
 | mk (ρ δ h ds h'):RepS K ρ H σ δ→Sim K ρ h H→(m δ h=some (ds,h'))→(∀vs ρ' H',Stp ρ H ρ' H'→Sim K ρ' h' H'→RepL K ρ' H' vs ds→Q vs H')→TMAi K m σ H Q
def tMA (K:PySem.W.Frag) (m:AM):TA:=fun σ H Q=>TMAi K m σ H Q
inductive TMSi (K:PySem.W.Frag) (m:SM) (E:Ends) (σ:L2.St) (H:Hp):Prop where
 | mk (ρ δ h fl δ' h'):RepS K ρ H σ δ→Sim K ρ h H→(m δ h=some (fl,δ',h'))→(∀ρ' H',Stp ρ H ρ' H'→Sim K ρ' h' H'→
 match fl with
 | .nx=>∀σ',RepS K ρ' H' σ' δ'→E.nx σ' H'
 | .bk=>∀σ',RepS K ρ' H' σ' δ'→E.bk σ' H'
 | .ct=>∀σ',RepS K ρ' H' σ' δ'→E.ct σ' H'
 | .rt d=>∀v,Rep K ρ' H' v d→E.rt v H')→TMSi K m E σ H
def tMS (K:PySem.W.Frag) (m:SM):TS:=fun E σ H=>TMSi K m E σ H
inductive TMGi (K:PySem.W.Frag) (m:GM) (v:V) (σ:L2.St) (H:Hp) (Q:L2.St→Hp→Prop):Prop where
 | mk (ρ δ h d δ' h'):RepS K ρ H σ δ→Sim K ρ h H→Rep K ρ H v d→(m d δ h=some (δ',h'))→(∀ρ' H' σ',Stp ρ H ρ' H'→Sim K ρ' h' H'→RepS K ρ' H' σ' δ'→Q σ' H')→TMGi K m v σ H Q
def tMG (K:PySem.W.Frag) (m:GM):TG:=fun v σ H Q=>TMGi K m v σ H Q
def SE (X:Cx) (e:Expr) (m:EM):Prop:=PE X e (tM X.K m)
def ST (X:Cx) (e:Expr) (m:TM):Prop:=PT X e (tMT X.K m)
def SW (X:Cx) (e:Expr) (m:TM):Prop:=PW X e (tMT X.K m)
def SA (X:Cx) (es:List Expr) (m:AM):Prop:=PA X es (tMA X.K m)
def SS (X:Cx) (s:Stmt) (m:SM):Prop:=PS X s (tMS X.K m)
def SSs (X:Cx) (s:List Stmt) (m:SM):Prop:=PSs X s (tMS X.K m)
def SG (X:Cx) (e:Expr) (m:GM):Prop:=PG X e (tMG X.K m)
theorem _root_.L2.PE.imp {X:Cx} {e:Expr} {t t':TE} (h:PE X e t) (i:∀σ H Q,t' σ H Q→t σ H Q):PE X e t':=fun pins s σ H Q I q=>h pins s σ H Q I (i σ H Q q)
theorem _root_.L2.PT.imp {X:Cx} {e:Expr} {t t':TT} (h:PT X e t) (i:∀σ H Q,t' σ H Q→t σ H Q):PT X e t':=fun pins s σ H Q I q=>h pins s σ H Q I (i σ H Q q)
theorem _root_.L2.PW.imp {X:Cx} {e:Expr} {t t':TT} (h:PW X e t) (i:∀σ H Q,t' σ H Q→t σ H Q):PW X e t':=fun wh pins s σ H Q I q=>h wh pins s σ H Q I (i σ H Q q)
theorem _root_.L2.PA.imp {X:Cx} {e:List Expr} {t t':TA} (h:PA X e t) (i:∀σ H Q,t' σ H Q→t σ H Q):PA X e t':=fun pos pins s σ H Q I q=>h pos pins s σ H Q I (i σ H Q q)
theorem _root_.L2.PS.imp {X:Cx} {e:Stmt} {t t':TS} (h:PS X e t) (i:∀E σ H,t' E σ H→t E σ H):PS X e t':=fun pins s σ H E I q=>h pins s σ H E I (i E σ H q)
theorem _root_.L2.PSs.imp {X:Cx} {e:List Stmt} {t t':TS} (h:PSs X e t) (i:∀E σ H,t' E σ H→t E σ H):PSs X e t':=fun pins s σ H E I q=>h pins s σ H E I (i E σ H q)
theorem _root_.L2.PG.imp {X:Cx} {e:Expr} {t t':TG} (h:PG X e t) (i:∀v σ H Q,t' v σ H Q→t v σ H Q):PG X e t':=fun pins s σ H v u Q I r q=>h pins s σ H v u Q I r (i v σ H Q q)
end Sm
namespace Sm
open PySem L2
theorem bnd {α β:Type} {o:Option α} {f:α→Option β} {b:β} (h:o.bind f=some b):∃a,o=some a∧f a=some b:=Option.bind_eq_some_iff.mp h
theorem mpd {α β:Type} {o:Option α} {f:α→β} {b:β} (h:o.map f=some b):∃a,o=some a∧f a=b:=Option.map_eq_some_iff.mp h
theorem tX {x:D} {α:Type} {g:Bool→Option α} {z:α} (e:(match x with | .bl c=>g c | _=>none)=some z):∃c,x=.bl c∧g c=some z:=by
 cases x <;> first | exact absurd e (by intro z;cases z) | exact ⟨_,rfl,e⟩
section
variable {K:PySem.W.Frag} {ρ ρ':Ad} {H H':Hp} {h h':MH} {d:D} {v:V}
theorem c9.here (S:Sim K ρ h H) (r:Rep K ρ H v d):c9 K ρ H h d v H:=⟨ρ,.refl _ _,S,r⟩
theorem c9.step {ρ1:Ad} {H1:Hp} (T:Stp ρ H ρ1 H1) (p:c9 K ρ1 H1 h' d v H'):c9 K ρ H h' d v H':=let ⟨ρ2,T2,S2,r2⟩:=p;⟨ρ2,T.trans T2,S2,r2⟩
theorem c9.tup {p:Addr} {vs:List V} {ds:List D} (S:Sim K ρ h H) (r:RepL K ρ H vs ds) (hp:H p=none):c9 K ρ H h (.tup ds) (.ref p) (upd H p (.tup vs)):=
 ⟨ρ,Stp.laid S hp,S.laid hp,.tup (.inl ⟨.inl aS,S.fresh hp⟩) (r.mono (Stp.laid S hp).toCh)⟩
theorem c9.lv {p:Addr} {vs:List V} {ds:List D} (S:Sim K ρ h H) (r:RepL K ρ H vs ds) (hp:H p=none):c9 K ρ H h (.lv ds) (.ref p) (upd H p (.lst vs)):=
 ⟨ρ,Stp.laid S hp,S.laid hp,.lv aS (S.fresh hp) (r.mono (Stp.laid S hp).toCh)⟩
theorem c9.dv {p:Addr} {us:List (Key×V)} {ds:List (Key×D)} (S:Sim K ρ h H) (r:RepK K ρ H us ds) (hp:H p=none):c9 K ρ H h (.dv ds) (.ref p) (upd H p (.dK us)):=
 ⟨ρ,Stp.laid S hp,S.laid hp,.dv aS (S.fresh hp) (r.mono (Stp.laid S hp).toCh)⟩
end
def af (i:Nat):EM:=fun δ h=>(δ[i]?).join.map fun d=>(d,h)
def eK (d:D):EM:=fun _ h=>some (d,h)
def eOp (f:D→D→MH→Option (D×MH)) (a b:EM):EM:=fun δ h=>(a δ h).bind fun p=>(b δ p.2).bind fun q=>f p.1 q.1 q.2
def eUn (f:D→MH→Option (D×MH)) (a:EM):EM:=fun δ h=>(a δ h).bind fun p=>f p.1 p.2
def aj:AM:=fun _ h=>some ([],h)
def ae (a:EM) (r:AM):AM:=fun δ h=>(a δ h).bind fun p=>(r δ p.2).bind fun q=>some (p.1::q.1,q.2)
def eFn (f:Fn) (a:AM):EM:=fun δ h=>(a δ h).bind fun p=>f p.1 p.2
def eIf (t:TM) (a b:EM):EM:=fun δ h=>(t δ h).bind fun p=>if p.1 then a δ p.2 else b δ p.2
def aY (a:EM):TM:=fun δ h=>(a δ h).bind fun p=>match p.1 with
 | .bl b=>some (b,p.2)
 | _=>none
def oC (t:TM):TM:=fun δ h=>(t δ h).map fun p=>(!p.1,p.2)
def iJ (a b:TM):TM:=fun δ h=>(a δ h).bind fun p=>if p.1 then b δ p.2 else some (false,p.2)
def tOr (a b:TM):TM:=fun δ h=>(a δ h).bind fun p=>if p.1 then some (true,p.2) else b δ p.2
def ph (a b:EM):EM:=fun δ h=>(a δ h).bind fun p=>match p.1 with
 | .bl c=>if c then b δ p.2 else some (.bl false,p.2)
 | _=>none
def eOr (a b:EM):EM:=fun δ h=>(a δ h).bind fun p=>match p.1 with
 | .bl c=>if c then some (.bl true,p.2) else b δ p.2
 | _=>none
def bg:Fn:=fun ds h=>some (.tup ds,h)
inductive RSi (K:PySem.W.Frag) (f:D→D→MH→Option (D×MH)) (x y:V) (H:Hp) (Q:VK):Prop where
 | mk (ρ h d e z h'):Sim K ρ h H→Rep K ρ H x d→Rep K ρ H y e→(f d e h=some (z,h'))→(∀v H',c9 K ρ H h' z v H'→Q v H')→RSi K f x y H Q
def rS (K:PySem.W.Frag) (f:D→D→MH→Option (D×MH)):R2:=fun x y H Q=>RSi K f x y H Q
def OpS (X:Cx) (g:Value→Value→Sem Value) (f:D→D→MH→Option (D×MH)):Prop:=OpR X g (rS X.K f)
inductive RUi (K:PySem.W.Frag) (f:D→MH→Option (D×MH)) (x:V) (H:Hp) (Q:VK):Prop where
 | mk (ρ h d z h'):Sim K ρ h H→Rep K ρ H x d→(f d h=some (z,h'))→(∀v H',c9 K ρ H h' z v H'→Q v H')→RUi K f x H Q
def rU (K:PySem.W.Frag) (f:D→MH→Option (D×MH)):V→Hp→VK→Prop:=fun x H Q=>RUi K f x H Q
inductive RFi (K:PySem.W.Frag) (f:Fn) (vs:List V) (H:Hp) (Q:VK):Prop where
 | mk (ρ h ds z h'):Sim K ρ h H→RepL K ρ H vs ds→(f ds h=some (z,h'))→(∀v H',c9 K ρ H h' z v H'→Q v H')→RFi K f vs H Q
def rF (K:PySem.W.Frag) (f:Fn):List V→Hp→VK→Prop:=fun vs H Q=>RFi K f vs H Q
def fg (X:Cx) (g:Value) (f:Fn):Prop:=dZ X g (rF X.K f)
section
variable {X:Cx} {a b c e:Expr} {es:List Expr} {pos:Pos} {ma mb mc:EM} {mt mu:TM} {m:AM} {f:D→D→MH→Option (D×MH)}
theorem vQ {i:Nat} {x:Str} (hN:X.N[i]?=some x) (hv:Vis X.env.scope x) (hd:(x==("__debug__":Str))=false:=by kernel_rfl) (hcd:(x==("__classdict__":Str))=false:=by kernel_rfl):SE X (.Name x pos) (af i):=
 (wM hN hv hd hcd).imp fun σ H Q ⟨ρ,δ,h,d,h',R,S,e,k⟩=>by
  obtain ⟨d',e1,e2⟩:=mpd e
  cases e2
  obtain ⟨v,ev,r⟩:=R.at_ i _ (Option.join_eq_some_iff.mp e1)
  exact ⟨v,ev,k v H (.here S r)⟩
theorem rO {v:V} {d:D} (hp:PE X e (tC v)) (hr:∀ρ H,Rep X.K ρ H v d):SE X e (eK d):=hp.imp fun σ H Q ⟨ρ,δ,h,d',h',R,S,ee,k⟩=>by
 cases ee
 exact k v H (.here S (hr _ _))
theorem ai {i j}:SE X (.Constant (.int i) j pos) (eK (.int i)):=rO wX fun _ _=>.int i
theorem rP {b j}:SE X (.Constant (.bool b) j pos) (eK (.bl b)):=rO yS fun _ _=>.bl b
theorem g6 {j}:SE X (.Constant .none j pos) (eK .non):=rO wV fun _ _=>.non
theorem ao {x j} (h:PyData.strOk x=true:=by decide+kernel):SE X (.Constant (.str x) j pos) (eK (.str x)):=rO wQ fun _ _=>.str h
theorem iz {x:Str} {n:String} (hg:Gl X x) (hm:X.mg x=none) (hv:bootBuiltins x=some (.type n)) (hn:x≠"__name__":=by decide) (hd:(x==("__debug__":Str))=false:=by kernel_rfl):SE X (.Name x pos) (eK (.ty n)):=
 rO (uT (v:=.ty n) hg hm hv rfl hn hd) fun _ _=>.ty n
theorem pN {σ:St} {H:Hp} {Q:VK} (h:tM X.K (eOp f ma mb) σ H Q):tOp (rS X.K f) (tM X.K ma) (tM X.K mb) σ H Q:=by
 obtain ⟨ρ,δ,h,d,h',R,S,e,k⟩:=h
 obtain ⟨⟨x,h1⟩,e1,e⟩:=bnd e
 obtain ⟨⟨y,h2⟩,e2,e3⟩:=bnd e
 refine ⟨ρ,δ,h,x,h1,R,S,e1,fun v H1 ⟨ρ1,T1,S1,r1⟩=>?_⟩
 refine ⟨ρ1,δ,h1,y,h2,R.mono T1,S1,e2,fun u H2 ⟨ρ2,T2,S2,r2⟩=>?_⟩
 exact ⟨ρ2,h2,x,y,d,h',S2,r1.mono T2,r2,e3,fun w H3 p=>k w H3 (p.step (T1.trans T2))⟩
theorem aG {op:Operator} (ho:OpS X (binaryOp op) f) (ha:SE X a ma) (hb:SE X b mb):SE X (.BinOp a op b pos) (eOp f ma mb):=(vz ho ha hb).imp fun _ _ _=>pN
theorem eQ {op:CmpOp} (ho:OpS X (compareOp op) f) (ha:SE X a ma) (hb:SE X b mb) (hm:behindInMarks op b=false):SE X (.Compare a [op] [b] pos) (eOp f ma mb):=(uR ho ha hb hm).imp fun _ _ _=>pN
theorem aP {op:CmpOp} (ho:OpS X (compareOp op) f) (ha:SE X a ma) (hb:SE X b mb) (hm:behindInMarks op b=false):ST X (.Compare a [op] [b] pos) (aY (eOp f ma mb)):=
 (uD ho ha hb hm).imp fun σ H Q ⟨ρ,δ,h,c,h',R,S,e,k⟩=>by
  obtain ⟨⟨x,h1⟩,e1,e2⟩:=bnd e
  obtain ⟨c',rfl,e2⟩:=tX e2
  cases e2
  refine pN ⟨ρ,δ,h,.bl c,h1,R,S,e1,fun v H' ⟨ρ',T,S',r⟩=>?_⟩
  cases r
  exact ⟨c,rfl,k ρ' H' T S'⟩
theorem iy {op:UnaryOp} {f:D→MH→Option (D×MH)} (ho:UnR X (unaryOp op) (rU X.K f)) (ha:SE X a ma):SE X (.UnaryOp op a pos) (eUn f ma):=(yP ho ha).imp fun σ H Q ⟨ρ,δ,h,d,h',R,S,e,k⟩=>by
 obtain ⟨⟨x,h1⟩,e1,e⟩:=bnd e
 exact ⟨ρ,δ,h,x,h1,R,S,e1,fun v H1 ⟨ρ1,T1,S1,r1⟩=>⟨ρ1,h1,x,d,h',S1,r1,e,fun w H3 p=>k w H3 (p.step T1)⟩⟩
theorem ag:SA X [] aj:=w5.imp fun σ H Q ⟨ρ,δ,h,d,h',R,S,e,k⟩=>by
 cases e
 exact k [] ρ H (.refl _ _) S .nil
theorem aa (ha:SE X e ma) (hr:SA X es m) (hs:starEach (e::es) X.env=(false,eval e X.env)::starEach es X.env:=by kernel_rfl):SA X (e::es) (ae ma m):=
 (uU ha hr hs).imp fun σ H Q ⟨ρ,δ,h,d,h',R,S,e,k⟩=>by
  obtain ⟨⟨x,h1⟩,e1,e⟩:=bnd e
  obtain ⟨⟨ys,h2⟩,e2,e3⟩:=bnd e
  cases e3
  refine ⟨ρ,δ,h,x,h1,R,S,e1,fun v H1 ⟨ρ1,T1,S1,r1⟩=>?_⟩
  exact ⟨ρ1,δ,h1,ys,h2,R.mono T1,S1,e2,fun vs ρ2 H2 T2 S2 rs=>k _ ρ2 H2 (T1.trans T2) S2 (.cons (r1.mono T2) rs)⟩
def iw (m:AM) (n:Nat):Prop:=∀δ h ds h',m δ h=some (ds,h')→ds.length=n
theorem ah:iw aj 0:=fun δ h ds h' e=>by cases e;rfl
theorem ab {n:Nat} (hr:iw m n):iw (ae ma m) (n+1):=fun δ h ds h' e=>by
 obtain ⟨⟨x,h1⟩,e1,e⟩:=bnd e
 obtain ⟨⟨ys,h2⟩,e2,e3⟩:=bnd e
 cases e3
 rw [List.length_cons,hr _ _ _ _ e2]
theorem aw {x1} {n:Nat} (h:SA X es m) (hl:iw m n) (hn:n≤sizeLine:=by decide):SE X (.Tuple es x1 pos) (eFn bg m):=(wN h).imp fun σ H Q ⟨ρ,δ,h,d,h',R,S,e,k⟩=>by
 obtain ⟨⟨x,h1⟩,e1,e⟩:=bnd e
 cases e
 refine ⟨ρ,δ,h,x,h1,R,S,e1,fun vs ρ1 H1 T1 S1 r1=>⟨by rw [r1.length,hl _ _ _ _ e1];exact hn,fun p hp=>k _ _ (c9.step T1 (.tup S1 r1 hp))⟩⟩
inductive TFLi (K:PySem.W.Frag) (m:AM) (σ:L2.St) (H:Hp) (Q:VK):Prop where
 | mk (ρ δ h ds h'):RepS K ρ H σ δ→Sim K ρ h H→(m δ h=some (ds,h'))→(∀ρ1 H1 p vs,Stp ρ H ρ1 H1→Sim K ρ1 h' H1→H1 p=none→RepL K ρ1 H1 vs ds→Q (.ref p) (upd H1 p (.lst vs)))→TFLi K m σ H Q
def tFL (K:PySem.W.Frag) (m:AM):TE:=fun σ H Q=>TFLi K m σ H Q
def SFL (X:Cx) (e:Expr) (m:AM):Prop:=PE X e (tFL X.K m)
def eLv (m:AM):EM:=fun δ h=>(m δ h).map fun p=>(.lv p.1,p.2)
def eOb (m:AM):EM:=fun δ h=>(m δ h).map fun p=>(.ob p.2.length,p.2++[.lst p.1])
theorem c9.ob {K:PySem.W.Frag} {ρ:Ad} {H:Hp} {h:MH} {p:Addr} {vs:List V} {ds:List D} (S:Sim K ρ h H) (r:RepL K ρ H vs ds) (hp:H p=none):c9 K ρ H (h++[.lst ds]) (.ob h.length) (.ref p) (upd H p (.lst vs)):=
 ⟨ρ.more p,Stp.made S hp,S.made hp ⟨vs,aS,r.mono (Stp.made S hp).toCh⟩,.ob (show (ρ.ob++[p])[h.length]?=_ by rw [←S.len,List.getElem?_append_right (Nat.le_refl _)];simp)⟩
theorem SFL.lv (h:SFL X e m):SE X e (eLv m):=h.imp fun σ H Q ⟨ρ,δ,h,d,h',R,S,e,k⟩=>by
 obtain ⟨⟨ds,h1⟩,e1,e2⟩:=mpd e
 cases e2
 exact ⟨ρ,δ,h,ds,h1,R,S,e1,fun ρ1 H1 p vs T S1 hp r=>k _ _ (c9.step T (.lv S1 r hp))⟩
theorem SFL.ob (h:SFL X e m):SE X e (eOb m):=h.imp fun σ H Q ⟨ρ,δ,h,d,h',R,S,e,k⟩=>by
 obtain ⟨⟨ds,h1⟩,e1,e2⟩:=mpd e
 cases e2
 exact ⟨ρ,δ,h,ds,h1,R,S,e1,fun ρ1 H1 p vs T S1 hp r=>k _ _ (c9.step T (.ob S1 r hp))⟩
theorem bE {n:Nat} (h:SA X es m) (hl:iw m n) (hn:n≤sizeLine:=by decide):SFL X (.List es pos) m:=(wW h).imp fun σ H Q ⟨ρ,δ,h,ds,h',R,S,e,k⟩=>
 ⟨ρ,δ,h,ds,h',R,S,e,fun vs ρ1 H1 T1 S1 r1=>⟨by rw [r1.length,hl _ _ _ _ e];exact hn,fun p hp=>k ρ1 H1 p vs T1 S1 hp r1⟩⟩
def eDv:EM:=fun _ h=>some (.dv [],h)
def eDo:EM:=fun _ h=>some (.ob h.length,h++[.dct []])
theorem yu:SE X (.Dict [] [] pos) eDv:=sy.imp fun σ H Q ⟨ρ,δ,h,d,h',R,S,e,k⟩ p hp=>by
 cases e
 exact k _ _ (.dv S .nil hp)
theorem oD (h:ST X a mt):ST X (.UnaryOp .Not a pos) (oC mt):=(wC h).imp fun σ H Q ⟨ρ,δ,h,c,h',R,S,e,k⟩=>by
 obtain ⟨⟨x,h1⟩,e1,e2⟩:=mpd e
 cases e2
 exact ⟨ρ,δ,h,x,h1,R,S,e1,fun ρ' H' T S'=>k ρ' H' T S'⟩
theorem fP (h:ST X a mt):SW X (.BoolOp .And [a] pos) mt:=uC h
theorem lK (h:ST X a mt):SW X (.BoolOp .Or [a] pos) mt:=wA h
theorem gb {rest:List Expr} (ha:ST X a mt) (hb:SW X (.BoolOp .And (b::rest) pos) mu):SW X (.BoolOp .And (a::b::rest) pos) (iJ mt mu):=(wB ha hb).imp fun σ H Q ⟨ρ,δ,h,c,h',R,S,e,k⟩=>by
 obtain ⟨⟨x,h1⟩,e1,e2⟩:=bnd e
 refine ⟨ρ,δ,h,x,h1,R,S,e1,fun ρ' H' T S'=>?_⟩
 cases x with
 | true=>rw [if_pos rfl] at e2 ⊢;exact ⟨ρ',δ,h1,c,h',R.mono T,S',e2,fun ρ2 H2 T2 S2=>k ρ2 H2 (T.trans T2) S2⟩
 | false=>rw [if_neg (by simp)] at e2 ⊢;cases e2;exact k ρ' H' T S'
theorem pK {rest:List Expr} (ha:ST X a mt) (hb:SW X (.BoolOp .Or (b::rest) pos) mu):SW X (.BoolOp .Or (a::b::rest) pos) (tOr mt mu):=(yN ha hb).imp fun σ H Q ⟨ρ,δ,h,c,h',R,S,e,k⟩=>by
 obtain ⟨⟨x,h1⟩,e1,e2⟩:=bnd e
 refine ⟨ρ,δ,h,x,h1,R,S,e1,fun ρ' H' T S'=>?_⟩
 cases x with
 | false=>rw [if_neg (by simp)] at e2 ⊢;exact ⟨ρ',δ,h1,c,h',R.mono T,S',e2,fun ρ2 H2 T2 S2=>k ρ2 H2 (T.trans T2) S2⟩
 | true=>rw [if_pos rfl] at e2 ⊢;cases e2;exact k ρ' H' T S'
theorem SW.st (h:SW X a mt):ST X a mt:=PW.pt h
theorem lR {op} (h:SE X a ma):SE X (.BoolOp op [a] pos) ma:=wR h
theorem jc {rest:List Expr} (ha:SE X a ma) (hb:SE X (.BoolOp .And (b::rest) pos) mb):SE X (.BoolOp .And (a::b::rest) pos) (ph ma mb):=(wZ ha hb).imp fun σ H Q ⟨ρ,δ,h,d,h',R,S,e,k⟩=>by
 obtain ⟨⟨x,h1⟩,e1,e2⟩:=bnd e
 obtain ⟨c,rfl,e2⟩:=tX e2
 refine ⟨ρ,δ,h,.bl c,h1,R,S,e1,fun v H' ⟨ρ',T,S',r⟩=>?_⟩
 cases r
 refine ⟨c,rfl,?_⟩
 cases c with
 | true=>rw [if_pos rfl] at e2 ⊢;exact ⟨ρ',δ,h1,d,h',R.mono T,S',e2,fun v H2 p=>k v H2 (p.step T)⟩
 | false=>rw [if_neg (by simp)] at e2 ⊢;cases e2;exact k _ _ ⟨ρ',T,S',.bl _⟩
def xK (a:EM):EM:=fun δ h=>(a δ h).bind fun p=>match p.1 with
 | .bl c=>some (.bl (!c),p.2)
 | _=>none
theorem vS (ha:SE X a ma):SE X (.UnaryOp .Not a pos) (xK ma):=(wU ha).imp fun σ H Q ⟨ρ,δ,h,d,h',R,S,e,k⟩=>by
 obtain ⟨⟨x,h1⟩,e1,e2⟩:=bnd e
 obtain ⟨c,rfl,e2⟩:=tX e2
 cases e2
 refine ⟨ρ,δ,h,.bl c,h1,R,S,e1,fun v H' ⟨ρ',T,S',r⟩=>?_⟩
 cases r
 exact ⟨c,rfl,k _ _ ⟨ρ',T,S',.bl _⟩⟩
def rp (d:D) (h:MH):Option Bool:=match d with
 | .non=>some false
 | .bl b=>some b
 | .int i=>some (i !=0)
 | .str x=>if x.length≤sizeLine then some ((x.length:Int) !=0) else none
 | .tup xs=>some (!xs.isEmpty)
 | .dv kvs=>some (!kvs.isEmpty)
 | .ob n=>match h[n]? with
  | some (.lst xs)=>some (!xs.isEmpty)
  | some (.dct kvs)=>some (!kvs.isEmpty)
  | none=>none
 | .lv xs=>some (!xs.isEmpty)
 | .ro xs=>some (!xs.isEmpty)
 | .ty _=>none
def jT (a:EM):TM:=fun δ h=>(a δ h).bind fun p=>(rp p.1 p.2).map fun c=>(c,p.2)
theorem RepK.isEmpty {K:PySem.W.Frag} {ρ:Ad} {H:Hp} {us:List (Key×V)} {ds:List (Key×D)} (t:RepK K ρ H us ds):us.isEmpty=ds.isEmpty:=by cases t <;> rfl
theorem ub {K:PySem.W.Frag} {ρ:Ad} {H:Hp} {h:MH} {v:V} {d:D} {c:Bool} (S:Sim K ρ h H) (r:Rep K ρ H v d) (e:rp d h=some c):xU K v H c:=by
 cases r with
 | non=>cases e;exact rfl
 | bl b=>cases e;exact rfl
 | int i=>cases e;exact rfl
 | str hs=>
  unfold rp at e
  by_cases z:‹Str›.length≤sizeLine
  ·simp only [if_pos z] at e;cases e;exact ⟨z,rfl⟩
  ·simp only [if_neg z] at e;cases e
 | ty n=>cases e
 | tup ht l=>cases e;exact .inr (.inl ⟨_,ht.sq,by rw [l.isEmpty]⟩)
 | lv ht n l=>cases e;exact .inl ⟨_,SqL.of ht,by rw [l.isEmpty]⟩
 | ro ht l=>cases e;exact .inl ⟨_,ht.sq,by rw [l.isEmpty]⟩
 | dv ht n l=>cases e;exact .inr (.inr ⟨_,ht,by rw [l.isEmpty]⟩)
 | ob hn=>
  unfold rp at e
  rename_i a n
  cases q:h[n]? with
  | none=>simp only [q] at e;cases e
  | some o=>
   have x:=S.at_ n a o hn q
   cases o with
   | lst ds=>simp only [q] at e;cases e;obtain ⟨vs,e1,l⟩:=x;exact .inl ⟨_,SqL.of e1,by rw [l.isEmpty]⟩
   | dct ds=>simp only [q] at e;cases e;obtain ⟨vs,e1,l⟩:=x;exact .inr (.inr ⟨_,e1,by rw [l.isEmpty]⟩)
theorem ft (ha:SE X a ma) (he:∀whole,isTrue a X.env whole=(do let v←whole;standAt a.pos;holding [v] (truthy v)):=by intro _;kernel_rfl):ST X a (jT ma):=(sg ha he).imp fun σ H Q ⟨ρ,δ,h,c,h',R,S,e,k⟩=>by
 obtain ⟨⟨x,h1⟩,e1,e2⟩:=bnd e
 obtain ⟨c',e3,e4⟩:=mpd e2
 cases e4
 exact ⟨ρ,δ,h,x,h1,R,S,e1,fun v H' ⟨ρ',T,S',r⟩=>⟨c,ub S' r e3,k ρ' H' T S'⟩⟩
end
end Sm
namespace Sm
open PySem L2
mutual
def dY:D→D→Bool
 | .non,.non=>true
 | .bl a,.bl b=>a==b
 | .int a,.int b=>a==b
 | .str a,.str b=>decide (a=b)
 | .ty a,.ty b=>a==b
 | .tup a,.tup b=>jQ a b
 | .lv a,.lv b=>jQ a b
 | .ro a,.ro b=>jQ a b
 | .dv a,.dv b=>nq a b
 | .ob a,.ob b=>a==b
 | _,_=>false
def jQ:List D→List D→Bool
 | [],[]=>true
 | a::r,b::s=>dY a b&&jQ r s
 | _,_=>false
def nq:List (Key×D)→List (Key×D)→Bool
 | [],[]=>true
 | (k,a)::r,(j,b)::s=>decide (k=j)&&dY a b&&nq r s
 | _,_=>false
end
mutual
theorem qb:∀(a b:D),dY a b=true→a=b
 | .non,b,h=>by cases b <;> first | rfl | simp [dY] at h
 | .bl x,b,h=>by cases b <;> simp [dY] at h;rw [h]
 | .int x,b,h=>by cases b <;> simp [dY] at h;rw [h]
 | .str x,b,h=>by cases b <;> simp [dY] at h;rw [h]
 | .ty x,b,h=>by cases b <;> simp [dY] at h;rw [h]
 | .ob x,b,h=>by cases b <;> simp [dY] at h;rw [h]
 | .tup x,b,h=>by cases b <;> simp [dY] at h;rw [gS _ _ h]
 | .lv x,b,h=>by cases b <;> simp [dY] at h;rw [gS _ _ h]
 | .ro x,b,h=>by cases b <;> simp [dY] at h;rw [gS _ _ h]
 | .dv x,b,h=>by cases b <;> simp [dY] at h;rw [nj _ _ h]
theorem gS:∀(a b:List D),jQ a b=true→a=b
 | [],b,h=>by cases b <;> first | rfl | simp [jQ] at h
 | x::r,b,h=>by
  cases b with
  | nil=>simp [jQ] at h
  | cons y s=>simp [jQ] at h;rw [qb _ _ h.1,gS _ _ h.2]
theorem nj:∀(a b:List (Key×D)),nq a b=true→a=b
 | [],b,h=>by cases b <;> first | rfl | simp [nq] at h
 | (k,x)::r,b,h=>by
  cases b with
  | nil=>simp [nq] at h
  | cons y s=>
   obtain ⟨j,y⟩:=y
   simp [nq] at h
   rw [h.1.1,qb _ _ h.1.2,nj _ _ h.2]
end
mutual
theorem lF:∀(a:D),dY a a=true
 | .non=>rfl
 | .bl x=>by simp [dY]
 | .int x=>by simp [dY]
 | .str x=>by simp [dY]
 | .ty x=>by simp [dY]
 | .ob x=>by simp [dY]
 | .tup x=>by simp [dY];exact eL x
 | .lv x=>by simp [dY];exact eL x
 | .ro x=>by simp [dY];exact eL x
 | .dv x=>by simp [dY];exact iu x
theorem eL:∀(a:List D),jQ a a=true
 | []=>rfl
 | x::r=>by simp [jQ];exact ⟨lF x,eL r⟩
theorem iu:∀(a:List (Key×D)),nq a a=true
 | []=>rfl
 | (k,x)::r=>by simp [nq];exact ⟨lF x,iu r⟩
end
def q9:MO→MO→Bool
 | .lst a,.lst b=>jQ a b
 | .dct a,.dct b=>nq a b
 | _,_=>false
theorem p9 {a b:MO} (h:q9 a b=true):a=b:=by
 cases a <;> cases b <;> simp [q9] at h
 ·rw [gS _ _ h]
 ·rw [nj _ _ h]
theorem q5 (a:MO):q9 a a=true:=by
 cases a with
 | lst x=>exact eL x
 | dct x=>exact iu x
def nr:MH→MH→Bool
 | [],[]=>true
 | a::r,b::s=>q9 a b&&nr r s
 | _,_=>false
theorem qa:∀{a b:MH},nr a b=true→a=b
 | [],b,h=>by cases b <;> first | rfl | simp [nr] at h
 | x::r,b,h=>by
  cases b with
  | nil=>simp [nr] at h
  | cons y s=>simp [nr] at h;rw [p9 h.1,qa h.2]
def cV:SM:=fun δ h=>some (.nx,δ,h)
def zv:SM:=fun δ h=>some (.bk,δ,h)
def yw:SM:=fun δ h=>some (.ct,δ,h)
def ax (a b:SM):SM:=fun δ h=>(a δ h).bind fun r=>match r.1 with
 | .nx=>b r.2.1 r.2.2
 | _=>some r
def bc (i:Nat) (e:EM):SM:=fun δ h=>(e δ h).bind fun p=>some (.nx,δ.set i (some p.1),p.2)
def je (e:EM) (g:GM):SM:=fun δ h=>(e δ h).bind fun p=>(g p.1 δ p.2).bind fun q=>some (.nx,q.1,q.2)
def d9 (e:EM):SM:=fun δ h=>(e δ h).bind fun p=>some (.nx,δ,p.2)
def bL (e:EM):SM:=fun δ h=>(e δ h).bind fun p=>some (.rt p.1,δ,p.2)
def sIf (t:TM) (a b:SM):SM:=fun δ h=>(t δ h).bind fun p=>if p.1 then a δ p.2 else b δ p.2
def gN (i:Nat):GM:=fun d δ h=>some (δ.set i (some d),h)
abbrev GMs:=List D→DS→MH→Option (DS×MH)
def dN:GMs:=fun ds δ h=>match ds with
 | []=>some (δ,h)
 | _=>none
def aU (g:GM) (u:GMs):GMs:=fun ds δ h=>match ds with
 | []=>none
 | d::r=>(g d δ h).bind fun p=>u r p.1 p.2
def gT (n:Nat) (u:GMs):GM:=fun d δ h=>match d with
 | .tup xs=>if xs.length=n then u xs δ h else none
 | _=>none
abbrev W:=List (Nat×MO)
abbrev IM:=DS→MH→Option (List D×W×MH)
def chk:W→MH→Bool
 | [],_=>true
 | (n,o)::r,h=>(match h[n]? with | some u=>q9 u o | none=>false)&&chk r h
def gK (ws:W) (g:GM) (b:SM):List D→SM
 | [],δ,h=>if chk ws h then some (.nx,δ,h) else none
 | x::r,δ,h=>if chk ws h then (g x δ h).bind fun q=>(b q.1 q.2).bind fun z=>match z.1 with
  | .nx=>gK ws g b r z.2.1 z.2.2
  | .ct=>gK ws g b r z.2.1 z.2.2
  | .bk=>some (.nx,z.2.1,z.2.2)
  | .rt d=>some (.rt d,z.2.1,z.2.2)
  else none
def gi (i:IM) (g:GM) (b:SM):SM:=fun δ h=>(i δ h).bind fun p=>gK p.2.1 g b p.1 δ p.2.2
def ej (c:TM) (b:SM):Nat→SM
 | 0,_,_=>none
 | n+1,δ,h=>(c δ h).bind fun p=>if p.1 then (b δ p.2).bind fun z=>match z.1 with
   | .nx=>ej c b n z.2.1 z.2.2
   | .ct=>ej c b n z.2.1 z.2.2
   | .bk=>some (.nx,z.2.1,z.2.2)
   | .rt d=>some (.rt d,z.2.1,z.2.2)
  else some (.nx,δ,p.2)
section
variable {X:Cx} {a b c e tg iter:Expr} {es:List Expr} {st:Stmt} {sts rest:List Stmt} {pos:Pos} {ma mb:EM} {mt:TM} {ms mu:SM} {m:AM} {g:GM} {gs:GMs}
theorem bo:SSs X [] cV:=uF.imp fun E σ H ⟨ρ,δ,h,fl,δ',h',R,S,e,k⟩=>by
 cases e
 exact k ρ H (.refl _ _) S σ R
theorem vY {E:Ends} {σ:St} {H:Hp} (hh:tMS X.K (ax ms mu) E σ H):yg (tMS X.K ms) (tMS X.K mu) E σ H:=by
 obtain ⟨ρ,δ,h,fl,δ',h',R,S,e,k⟩:=hh
 obtain ⟨⟨f1,δ1,h1⟩,e1,e2⟩:=bnd e
 cases f1 with
 | nx=>exact ⟨ρ,δ,h,.nx,δ1,h1,R,S,e1,fun ρ1 H1 T1 S1 σ' R'=>⟨ρ1,δ1,h1,fl,δ',h',R',S1,e2,fun ρ2 H2 T2 S2=>k ρ2 H2 (T1.trans T2) S2⟩⟩
 | bk=>cases e2;exact ⟨ρ,δ,h,.bk,_,_,R,S,e1,fun ρ1 H1 T1 S1=>k ρ1 H1 T1 S1⟩
 | ct=>cases e2;exact ⟨ρ,δ,h,.ct,_,_,R,S,e1,fun ρ1 H1 T1 S1=>k ρ1 H1 T1 S1⟩
 | rt d=>cases e2;exact ⟨ρ,δ,h,.rt d,_,_,R,S,e1,fun ρ1 H1 T1 S1=>k ρ1 H1 T1 S1⟩
theorem ak (h1:SS X st ms) (h2:SSs X rest mu):SSs X (st::rest) (ax ms mu):=(sh h1 h2).imp fun _ _ _=>vY
theorem aq (h1:SS X st ms):SSs X [st] ms:=uE h1
theorem rY {E:Ends} {σ:St} {H:Hp} {i:Nat} (hh:tMS X.K (bc i ma) E σ H):ud (tM X.K ma) (n4 i) E σ H:=by
 obtain ⟨ρ,δ,h,fl,δ',h',R,S,e,k⟩:=hh
 obtain ⟨⟨x,h1⟩,e1,e2⟩:=bnd e
 cases e2
 exact ⟨ρ,δ,h,x,h1,R,S,e1,fun v H1 ⟨ρ1,T1,S1,r1⟩=>k ρ1 H1 T1 S1 _ ((R.mono T1).set r1 i)⟩
theorem vK {i:Nat} {x:Str} {pos':Pos} (hN:X.N.Nodup) (hi:X.N[i]?=some x) (hx:Loc X.env.scope x) (he:SE X e ma) (hs:swapsWith e (some (.Name x pos')) pos.line X.env=pure false:=by kernel_rfl)
  (hf:X.fn x=true∨X.env.scope.names.lookup x=some .local:=by first | exact .inl rfl | exact .inr rfl | assumption):SS X (.Assign [.Name x pos'] e pos) (bc i ma):=(wD hN hi hx he hs hf).imp fun _ _ _=>rY
theorem ug {i:Nat} {x:Str} (hN:X.N.Nodup) (hi:X.N[i]?=some x) (hx:Loc X.env.scope x) (hf:X.fn x=true∨X.env.scope.names.lookup x=some .local:=by first | exact .inl rfl | exact .inr rfl | assumption):SG X (.Name x pos) (gN i):=
 (uP hN hi hx hf).imp fun v σ H Q ⟨ρ,δ,h,d,δ',h',R,S,r,e,k⟩=>by
  cases e
  exact k ρ H _ (.refl _ _) S (R.set r i)
inductive TMGsi (K:PySem.W.Frag) (m:GMs) (vs:List V) (σ:L2.St) (H:Hp) (Q:L2.St→Hp→Prop):Prop where
 | mk (ρ δ h ds δ' h'):RepS K ρ H σ δ→Sim K ρ h H→RepL K ρ H vs ds→(m ds δ h=some (δ',h'))→(∀ρ' H' σ',Stp ρ H ρ' H'→Sim K ρ' h' H'→RepS K ρ' H' σ' δ'→Q σ' H')→TMGsi K m vs σ H Q
def zp (K:PySem.W.Frag) (m:GMs):TGs:=fun vs σ H Q=>TMGsi K m vs σ H Q
def SGs (X:Cx) (es:List Expr) (m:GMs):Prop:=PGs X es (zp X.K m)
theorem _root_.L2.PGs.imp {X:Cx} {e:List Expr} {t t':TGs} (h:PGs X e t) (i:∀v σ H Q,t' v σ H Q→t v σ H Q):PGs X e t':=fun pins s σ H v u Q I r q=>h pins s σ H v u Q I r (i v σ H Q q)
theorem cw:SGs X [] dN:=uO.imp fun v σ H Q ⟨ρ,δ,h,d,δ',h',R,S,r,e,k⟩=>by
 cases r with
 | nil=>cases e;exact ⟨rfl,k ρ H σ (.refl _ _) S R⟩
 | cons _ _=>cases e
theorem aC (h1:SG X e g) (h2:SGs X es gs) (hs:(assignEach (e::es) X.env).map (·.2)=assign e X.env::(assignEach es X.env).map (·.2):=by kernel_rfl):SGs X (e::es) (aU g gs):=(sr h1 h2 hs).imp fun v σ H Q ⟨ρ,δ,h,d,δ',h',R,S,r,e,k⟩=>by
 cases r with
 | nil=>cases e
 | cons r rs=>
  obtain ⟨⟨δ1,h1⟩,e1,e2⟩:=bnd e
  exact ⟨_,_,rfl,ρ,δ,h,_,δ1,h1,R,S,r,e1,fun ρ1 H1 σ1 T1 S1 R1=>⟨ρ1,δ1,h1,_,δ',h',R1,S1,rs.mono T1,e2,fun ρ2 H2 σ2 T2 S2 R2=>k ρ2 H2 σ2 (T1.trans T2) S2 R2⟩⟩
theorem cZ {k0:Nat} {n:Nat} (hc:X.calm=true) (h:SGs X es gs) (hn:(assignEach es X.env).length=n:=by kernel_rfl) (hst:(assignEach es X.env).findIdx? (·.1)=none:=by kernel_rfl):SG X (.Tuple es k0 pos) (gT n gs):=
 (wK hc h hn hst).imp fun v σ H Q ⟨ρ,δ,h,d,δ',h',R,S,r,e,k⟩=>by
  cases r <;> first | (exact absurd e (by intro z;cases z)) | skip
  rename_i a vs ds ht l _
  unfold gT at e
  dsimp only at e
  by_cases z:ds.length=n
  ·rw [if_pos z] at e
   exact ⟨a,vs,rfl,ht.sq,by rw [l.length];exact z,ρ,δ,h,ds,δ',h',R,S,l,e,k⟩
  ·rw [if_neg z] at e;cases e
theorem eN (he:SE X e ma) (hg:SG X tg g) (hs:swapsWithSole [tg] e pos.line X.env=pure false:=by kernel_rfl) (hw:swappedStores [tg] e X.env=pure none:=by kernel_rfl)
  (h1:(assignEach [tg] X.env).map (·.2)=[assign tg X.env]:=by kernel_rfl):SS X (.Assign [tg] e pos) (je ma g):=(wH he hg hs hw h1).imp fun E σ H ⟨ρ,δ,h,fl,δ',h',R,S,e,k⟩=>by
 obtain ⟨⟨x,h1⟩,e1,e2⟩:=bnd e
 obtain ⟨⟨δ2,h2⟩,e4,e3⟩:=bnd e2
 cases e3
 exact ⟨ρ,δ,h,x,h1,R,S,e1,fun v H1 ⟨ρ1,T1,S1,r1⟩=>⟨ρ1,δ,h1,x,_,_,R.mono T1,S1,r1,e4,fun ρ2 H2 σ2 T2 S2 R2=>k ρ2 H2 (T1.trans T2) S2 σ2 R2⟩⟩
theorem du (he:SE X e ma) (hs:swapsWith e none pos.line X.env=pure false:=by kernel_rfl):SS X (.Expr e pos) (d9 ma):=(uH he hs).imp fun E σ H ⟨ρ,δ,h,fl,δ',h',R,S,e,k⟩=>by
 obtain ⟨⟨x,h1⟩,e1,e2⟩:=bnd e
 cases e2
 exact ⟨ρ,δ,h,x,h1,R,S,e1,fun v H1 ⟨ρ1,T1,S1,r1⟩=>k ρ1 H1 T1 S1 σ (R.mono T1)⟩
theorem aH (he:SE X e ma):SS X (.Return (some e) pos) (bL ma):=(wF he).imp fun E σ H ⟨ρ,δ,h,fl,δ',h',R,S,e,k⟩=>by
 obtain ⟨⟨x,h1⟩,e1,e2⟩:=bnd e
 cases e2
 exact ⟨ρ,δ,h,x,h1,R,S,e1,fun v H1 ⟨ρ1,T1,S1,r1⟩=>k ρ1 H1 T1 S1 v r1⟩
theorem bS {sa sb:List Stmt} (hc:ST X c mt) (ha:SSs X sa ms) (hb:SSs X sb mu):SS X (.If c sa sb pos) (sIf mt ms mu):=(yO hc ha hb).imp fun E σ H ⟨ρ,δ,h,fl,δ',h',R,S,e,k⟩=>by
 obtain ⟨⟨x,h1⟩,e1,e2⟩:=bnd e
 refine ⟨ρ,δ,h,x,h1,R,S,e1,fun ρ1 H1 T1 S1=>?_⟩
 cases x with
 | true=>rw [if_pos rfl] at e2 ⊢;exact ⟨ρ1,δ,h1,fl,δ',h',R.mono T1,S1,e2,fun ρ2 H2 T2 S2=>k ρ2 H2 (T1.trans T2) S2⟩
 | false=>rw [if_neg (by simp)] at e2 ⊢;exact ⟨ρ1,δ,h1,fl,δ',h',R.mono T1,S1,e2,fun ρ2 H2 T2 S2=>k ρ2 H2 (T1.trans T2) S2⟩
structure ItS (K:PySem.W.Frag) (J:It) (ρ:Ad) (H:Hp) (ws:W) (xs:List D):Prop where
 run:∀ρ1 H1 h1,Ch ρ H ρ1 H1→Sim K ρ1 h1 H1→chk ws h1=true→∀i:Nat,(xs.length≤i→J.stop i H1)∧∀x,xs[i]?=some x→J.go i H1∧∀v H2,J.yld i H1 v H2→Stp ρ1 H1 ρ1 H2∧Sim K ρ1 h1 H2∧Rep K ρ1 H2 v x
inductive TMIi (K:PySem.W.Frag) (m:IM) (σ:L2.St) (H:Hp) (R:It→Hp→Prop):Prop where
 | mk (ρ δ h xs ws h'):RepS K ρ H σ δ→Sim K ρ h H→(m δ h=some (xs,ws,h'))→(∀J ρ1 H1,Stp ρ H ρ1 H1→Sim K ρ1 h' H1→ItS K J ρ1 H1 ws xs→R J H1)→TMIi K m σ H R
def tMI (K:PySem.W.Frag) (m:IM):TI:=fun σ H R=>TMIi K m σ H R
def SI (X:Cx) (tg iter:Expr) (m:IM):Prop:=PI X tg iter (tMI X.K m)
theorem _root_.L2.PI.imp {X:Cx} {tg e:Expr} {t t':TI} (h:PI X tg e t) (i:∀σ H Q,t' σ H Q→t σ H Q):PI X tg e t':=fun pins s σ H R I q=>h pins s σ H R I (i σ H R q)
theorem vZ {E:Ends} {σ:St} {H:Hp} {mi:IM} (hh:tMS X.K (gi mi g ms) E σ H):ym (tMI X.K mi) (tMG X.K g) (tMS X.K ms) E σ H:=by
 obtain ⟨ρ,δ,h,fl,δ',h',R,S,e,k⟩:=hh
 obtain ⟨⟨xs,ws,h1⟩,e1,e2⟩:=bnd e
 refine ⟨ρ,δ,h,xs,ws,h1,R,S,e1,fun J ρ1 H1 T1 S1 It=>?_⟩
 refine ⟨fun i m σ2 H2=>∃ρ2 δ2 h2,m=xs.length-i∧i≤xs.length∧Stp ρ1 H1 ρ2 H2∧RepS X.K ρ2 H2 σ2 δ2∧Sim X.K ρ2 h2 H2∧gK ws g ms (xs.drop i) δ2 h2=some (fl,δ',h'),⟨_,ρ1,δ,h1,rfl,Nat.zero_le _,.refl _ _,R.mono T1,S1,e2⟩,?_⟩
 rintro i m σ2 H2 ⟨ρ2,δ2,h2,rfl,hi,T2,R2,S2,e3⟩
 cases q:xs.drop i with
 | nil=>
  rw [q] at e3
  unfold gK at e3
  by_cases hc:chk ws h2=true
  ·rw [if_pos hc] at e3
   cases e3
   have hl:xs.length≤i:=by have:=congrArg List.length q;rw [List.length_drop,List.length_nil] at this;omega
   exact .inl ⟨(It.run ρ2 H2 _ T2 S2 hc i).1 hl,k ρ2 H2 (T1.trans T2) S2 σ2 R2⟩
  ·rw [if_neg hc] at e3;cases e3
 | cons x r=>
  rw [q] at e3
  unfold gK at e3
  by_cases hc:chk ws h2=true
  ·rw [if_pos hc] at e3
   have hx:xs[i]?=some x:=by
    have:=congrArg (fun l=>l[0]?) q
    simpa using this
   have hlt:i < xs.length:=(List.getElem?_eq_some_iff.mp hx).1
   have hr:xs.drop (i+1)=r:=by
    have:=congrArg List.tail q
    simpa using this
   obtain ⟨⟨δ3,h3⟩,e4,e5⟩:=bnd e3
   obtain ⟨⟨f4,δ4,h4⟩,e6,e7⟩:=bnd e5
   obtain ⟨hgo,hy⟩:=(It.run ρ2 H2 h2 T2 S2 hc i).2 x hx
   have NN:∀ρ5 H5 σ5,Stp ρ2 H2 ρ5 H5→Sim X.K ρ5 h4 H5→RepS X.K ρ5 H5 σ5 δ4→gK ws g ms r δ4 h4=some (fl,δ',h')→
     ∃m',m' < xs.length-i∧(∃ρ2 δ2 h2,m'=xs.length-(i+1)∧i+1≤xs.length∧Stp ρ1 H1 ρ2 H5∧RepS X.K ρ2 H5 σ5 δ2∧Sim X.K ρ2 h2 H5∧gK ws g ms (xs.drop (i+1)) δ2 h2=some (fl,δ',h')):=
    fun ρ5 H5 σ5 T5 S5 R5 e8=>⟨xs.length-(i+1),by omega,ρ5,δ4,h4,rfl,hlt,T2.trans T5,R5,S5,by rw [hr];exact e8⟩
   refine .inr ⟨hgo,fun σ5 H5=>∃ρ5,Stp ρ2 H2 ρ5 H5∧Sim X.K ρ5 h4 H5∧RepS X.K ρ5 H5 σ5 δ4∧gK ws g ms r δ4 h4=some (fl,δ',h'),fun σ5 H5 ⟨ρ5,T5,S5,R5,e8⟩=>NN ρ5 H5 σ5 T5 S5 R5 e8,fun v H3 y3=>?_⟩
   obtain ⟨T3,S3,r3⟩:=hy v H3 y3
   refine ⟨ρ2,δ2,h2,x,δ3,h3,R2.mono T3,S3,r3,e4,fun ρ4 H4 σ4 T4 S4 R4=>?_⟩
   refine ⟨ρ4,δ3,h3,f4,δ4,h4,R4,S4,e6,fun ρ5 H5 T5 S5=>?_⟩
   have T25:Stp ρ2 H2 ρ5 H5:=T3.trans (T4.trans T5)
   cases f4 with
   | nx=>exact fun σ' R'=>⟨ρ5,T25,S5,R',e7⟩
   | ct=>exact fun σ' R'=>⟨ρ5,T25,S5,R',e7⟩
   | bk=>cases e7;exact fun σ' R'=>k ρ5 H5 (T1.trans (T2.trans T25)) S5 σ' R'
   | rt d=>cases e7;exact fun v r=>k ρ5 H5 (T1.trans (T2.trans T25)) S5 v r
  ·rw [if_neg hc] at e3;cases e3
theorem dR {body:List Stmt} {mi:IM} (hp:PassesOwn (model X.prog X.w) X.A X.env X.xe) (hc:X.calm=true) (hi:SI X tg iter mi) (hg:SG X tg g) (hb:SSs X body ms) (hs:∀x,foldedSetIterable iter X.env x=pure x:=by intro _;kernel_rfl):SS X (.For tg iter body [] pos) (gi mi g ms):=
 (wG hp hc hi hg hb hs).imp fun _ _ _=>vZ
theorem rX {E:Ends} {σ:St} {H:Hp} {n:Nat} (hh:tMS X.K (ej mt ms n) E σ H):rq (tMT X.K mt) (tMS X.K ms) E σ H:=by
 obtain ⟨ρ,δ,h,fl,δ',h',R,S,e,k⟩:=hh
 refine ⟨fun m σ2 H2=>∃ρ2 δ2 h2,Stp ρ H ρ2 H2∧RepS X.K ρ2 H2 σ2 δ2∧Sim X.K ρ2 h2 H2∧ej mt ms m δ2 h2=some (fl,δ',h'),⟨n,ρ,δ,h,.refl _ _,R,S,e⟩,?_⟩
 rintro m σ2 H2 ⟨ρ2,δ2,h2,T2,R2,S2,e2⟩
 cases m with
 | zero=>cases e2
 | succ m=>
  obtain ⟨⟨x,h3⟩,e3,e4⟩:=bnd e2
  refine ⟨ρ2,δ2,h2,x,h3,R2,S2,e3,fun ρ3 H3 T3 S3=>?_⟩
  cases x with
  | false=>rw [if_neg (by simp)] at e4 ⊢;cases e4;exact k ρ3 H3 (T2.trans T3) S3 σ2 (R2.mono T3)
  | true=>
   rw [if_pos rfl] at e4 ⊢
   obtain ⟨⟨f4,δ4,h4⟩,e5,e6⟩:=bnd e4
   refine ⟨fun σ5 H5=>∃ρ5,Stp ρ3 H3 ρ5 H5∧Sim X.K ρ5 h4 H5∧RepS X.K ρ5 H5 σ5 δ4∧ej mt ms m δ4 h4=some (fl,δ',h'),fun σ5 H5 ⟨ρ5,T5,S5,R5,e8⟩=>⟨m,Nat.lt_succ_self m,ρ5,δ4,h4,T2.trans (T3.trans T5),R5,S5,e8⟩,?_⟩
   refine ⟨ρ3,δ2,h3,f4,δ4,h4,R2.mono T3,S3,e5,fun ρ5 H5 T5 S5=>?_⟩
   cases f4 with
   | nx=>exact fun σ' R'=>⟨ρ5,T5,S5,R',e6⟩
   | ct=>exact fun σ' R'=>⟨ρ5,T5,S5,R',e6⟩
   | bk=>cases e6;exact fun σ' R'=>k ρ5 H5 (T2.trans (T3.trans T5)) S5 σ' R'
   | rt d=>cases e6;exact fun v r=>k ρ5 H5 (T2.trans (T3.trans T5)) S5 v r
theorem rE {body:List Stmt} {n:Nat} (hp:PassesOwn (model X.prog X.w) X.A X.env X.xe) (hc:ST X c mt) (hb:SSs X body ms):SS X (.While c body [] pos) (ej mt ms n):=(si hp hc hb).imp fun _ _ _=>rX
end
end Sm
namespace L2
open PySem PySem.Spec PyProof.Rows
theorem wJ {X:Cx} {tg:Expr} {l:Expr} {tl:TE} (hl:PE X l tl):PI X tg l (fun σ H R=>tl σ H fun x H1=>∃a,x=.ref a∧(((∃xs,SqL X.K H1 a xs)∧R (Itl X.K a) H1)∨((∃xs,SqT X.K H1 a xs)∧R (Itt X.K a) H1))):=by
 intro pins s σ H R I h
 refine thn (hl pins s σ H _ I h) fun v s1 ⟨x,H1,I1,r1,q1⟩=>?_
 obtain ⟨a,e,q1⟩:=q1
 subst e
 cases r1
 rcases q1 with ⟨⟨xs,hq⟩,q⟩ | ⟨⟨xs,hq⟩,q⟩
 ·obtain ⟨its,rv,p,hz⟩:=I1.list hq
  refine wpAny_pyIter_list p.isList ?_
  refine ⟨s1.heap.objs.size,[s1.heap.objs.size],_,_,H1,rfl,I1.kept (t':=s1.toks) fun b o e=>Heap.get?_push_of_some _ e,qe a _,⟨_,Heap.get?_push_size _ rfl,rfl,rfl⟩,fun b hb=>?_,q⟩
  have e:b=s1.heap.objs.size:=by simpa using hb
  subst e
  exact I1.o6 (Nat.le_refl _) (I1.hok.fresh (Nat.le_refl _))
 ·obtain ⟨its,rv,p,hz⟩:=I1.tuple hq
  refine wpAny_pyIter_tuple (show s1.heap.IsTuple a its.toArray from p) ?_
  refine ⟨s1.heap.objs.size,[s1.heap.objs.size],_,_,H1,rfl,I1.kept (t':=s1.toks) fun b o e=>Heap.get?_push_of_some _ e,oz a _,⟨_,Heap.get?_push_size _ rfl,rfl,rfl⟩,fun b hb=>?_,q⟩
  have e:b=s1.heap.objs.size:=by simpa using hb
  subst e
  exact I1.o6 (Nat.le_refl _) (I1.hok.fresh (Nat.le_refl _))
end L2
namespace Sm
open PySem L2
def cH (d:D) (h:MH):Option (List D×W):=match d with
 | .lv xs=>some (xs,[])
 | .ro xs=>some (xs,[])
 | .tup xs=>some (xs,[])
 | .ob n=>match h[n]? with
  | some (.lst xs)=>some (xs,[(n,.lst xs)])
  | _=>none
 | _=>none
def ij (e:EM):IM:=fun δ h=>(e δ h).bind fun p=>(cH p.1 p.2).map fun q=>(q.1,q.2,p.2)
def kd (m:AM):IM:=fun δ h=>(m δ h).bind fun p=>match p.1 with
 | [.int j]=>if -(2^62)≤j∧j < 2^62 then some ((List.range j.toNat).map fun (k:Nat)=>D.int (k:Int),[],p.2) else none
 | [.int i,.int j]=>if -(2^62)≤i∧i < 2^62∧-(2^62)≤j∧j < 2^62 then some ((List.range (j-i).toNat).map fun (k:Nat)=>D.int (i+(k:Int)),[],p.2) else none
 | _=>none
section
variable {K:PySem.W.Frag} {ρ:Ad} {H:Hp} {h:MH} {a:Addr} {vs:List V} {xs:List D}
theorem o2 {J:It} {ws:W} (hl:∀ρ1 H1 h1,Ch ρ H ρ1 H1→Sim K ρ1 h1 H1→chk ws h1=true→∃vs,RepL K ρ1 H1 vs xs∧(∀i:Nat,vs.length≤i→J.stop i H1)∧∀(i:Nat) v,vs[i]?=some v→J.go i H1∧∀u H2,J.yld i H1 u H2→H2=H1∧u=v):ItS K J ρ H ws xs:=by
 refine ⟨fun ρ1 H1 h1 T S hc i=>?_⟩
 obtain ⟨vs,l,s1,s2⟩:=hl ρ1 H1 h1 T S hc
 refine ⟨fun hi=>s1 i (by rw [l.length];exact hi),fun x hx=>?_⟩
 obtain ⟨v,hv,r⟩:=l.got hx
 obtain ⟨g,y⟩:=s2 i v hv
 refine ⟨g,fun u H2 yy=>?_⟩
 obtain ⟨rfl,rfl⟩:=y u H2 yy
 exact ⟨.refl _ _,S,r⟩
theorem xC {ws:W} (hl:∀ρ1 H1 h1,Ch ρ H ρ1 H1→Sim K ρ1 h1 H1→chk ws h1=true→∃vs,RepL K ρ1 H1 vs xs∧SqL K H1 a vs):ItS K (Itl K a) ρ H ws xs:=
 o2 fun ρ1 H1 h1 T S hc=>by
  obtain ⟨vs,l,q⟩:=hl ρ1 H1 h1 T S hc
  refine ⟨vs,l,fun i hi=>⟨vs,q,hi⟩,fun i v hv=>⟨⟨vs,v,q,hv⟩,fun u H2 ⟨e,y⟩=>⟨e,?_⟩⟩⟩
  have:=y vs q
  rw [hv] at this
  exact (Option.some.inj this).symm
theorem xA {ws:W} (hl:∀ρ1 H1 h1,Ch ρ H ρ1 H1→Sim K ρ1 h1 H1→chk ws h1=true→∃vs,RepL K ρ1 H1 vs xs∧SqT K H1 a vs):ItS K (Itt K a) ρ H ws xs:=
 o2 fun ρ1 H1 h1 T S hc=>by
  obtain ⟨vs,l,q⟩:=hl ρ1 H1 h1 T S hc
  refine ⟨vs,l,fun i hi=>⟨vs,q,hi⟩,fun i v hv=>⟨⟨vs,v,q,hv⟩,fun u H2 ⟨e,y⟩=>⟨e,?_⟩⟩⟩
  have:=y vs q
  rw [hv] at this
  exact (Option.some.inj this).symm
theorem vi {n:Nat} {o:MO} {h:MH} (hc:chk [(n,o)] h=true):h[n]?=some o:=by
 unfold chk at hc
 cases q:h[n]? with
 | none=>rw [q] at hc;cases hc
 | some u=>
  rw [q] at hc
  simp [chk] at hc
  rw [p9 hc]
inductive SeqAt (K:PySem.W.Frag) (H:Hp) (a:Addr) (vs:List V):Bool→Prop where
 | l:SqL K H a vs→SeqAt K H a vs true
 | t:SqT K H a vs→SeqAt K H a vs false
def iN:D→Bool
 | .tup _=>false
 | _=>true
theorem fu {v:V} {d:D} {ws:W} (S:Sim K ρ h H) (r:Rep K ρ H v d) (e:cH d h=some (xs,ws)):∃a,v=.ref a∧(∃vs,SeqAt K H a vs (iN d)∧RepL K ρ H vs xs)∧
  ∀ρ1 H1 h1,Ch ρ H ρ1 H1→Sim K ρ1 h1 H1→chk ws h1=true→∃vs,RepL K ρ1 H1 vs xs∧SeqAt K H1 a vs (iN d):=by
 cases r with
 | tup ht l=>
  cases e
  refine ⟨_,rfl,⟨_,.t ht.sq,l⟩,fun ρ1 H1 h1 T S1 _=>?_⟩
  cases (Rep.tup ht l).mono T with
  | tup h1 l1=>exact ⟨_,l1,.t h1.sq⟩
 | lv ht n l=>
  cases e
  refine ⟨_,rfl,⟨_,.l (SqL.of ht),l⟩,fun ρ1 H1 h1 T S1 _=>?_⟩
  cases (Rep.lv ht n l).mono T with
  | lv h1 _ l1=>exact ⟨_,l1,.l (SqL.of h1)⟩
 | ro ht l=>
  cases e
  refine ⟨_,rfl,⟨_,.l ht.sq,l⟩,fun ρ1 H1 h1 T S1 _=>?_⟩
  cases (Rep.ro ht l).mono T with
  | ro h1 l1=>exact ⟨_,l1,.l h1.sq⟩
 | @ob a n hn=>
  unfold cH at e
  dsimp only at e
  cases q:h[n]? with
  | none=>rw [q] at e;cases e
  | some o=>
   rw [q] at e
   cases o with
   | dct _=>cases e
   | lst ys=>
    cases e
    obtain ⟨vs,e1,l⟩:=S.at_ n a _ hn q
    refine ⟨a,rfl,⟨vs,.l (SqL.of e1),l⟩,fun ρ1 H1 h1 T S1 hc=>?_⟩
    obtain ⟨us,e2,l2⟩:=S1.at_ n a _ (T.pre n a hn) (vi hc)
    exact ⟨us,l2,.l (SqL.of e2)⟩
 | non=>cases e
 | bl b=>cases e
 | int i=>cases e
 | str x=>cases e
 | ty x=>cases e
 | dv _ _ _=>cases e
end
section
variable {X:Cx} {a b c e tg iter:Expr} {es:List Expr} {pos:Pos} {ma mb:EM} {mt:TM} {ms mu:SM} {m:AM} {g:GM} {gs:GMs}
theorem er (h:SE X e ma):SI X tg e (ij ma):=(wJ h).imp fun σ H Q ⟨ρ,δ,h,xs,ws,h',R,S,e,k⟩=>by
 obtain ⟨⟨x,h1⟩,e1,e2⟩:=bnd e
 obtain ⟨⟨ys,w⟩,e3,e4⟩:=mpd e2
 cases e4
 refine ⟨ρ,δ,h,x,h1,R,S,e1,fun v H1 ⟨ρ1,T1,S1,r1⟩=>?_⟩
 obtain ⟨a,rfl,⟨vs,q,l⟩,st⟩:=fu S1 r1 e3
 refine ⟨a,rfl,?_⟩
 generalize iN x=b at q st
 cases q with
 | l q=>exact .inl ⟨⟨vs,q⟩,k _ ρ1 H1 T1 S1 (xC fun ρ2 H2 h2 T2 S2 hc=>by obtain ⟨us,l2,q2⟩:=st ρ2 H2 h2 T2 S2 hc;cases q2 with | l q2=>exact ⟨us,l2,q2⟩)⟩
 | t q=>exact .inr ⟨⟨vs,q⟩,k _ ρ1 H1 T1 S1 (xA fun ρ2 H2 h2 T2 S2 hc=>by obtain ⟨us,l2,q2⟩:=st ρ2 H2 h2 T2 S2 hc;cases q2 with | t q2=>exact ⟨us,l2,q2⟩)⟩
theorem hR {K:PySem.W.Frag} {ρ:Ad} {H:Hp}:∀(ns:List Int),RepL K ρ H (ns.map V.int) (ns.map D.int)
 | []=>.nil
 | _::r=>.cons (.int _) (hR r)
theorem xB {K:PySem.W.Frag} {ρ:Ad} {H:Hp} (lo:Int) (n:Nat):ItS K (Itr lo n) ρ H [] ((List.range n).map fun (k:Nat)=>D.int (lo+(k:Int))):=by
 refine o2 fun ρ1 H1 h1 T S hc=>⟨(List.range n).map fun (k:Nat)=>V.int (lo+(k:Int)),?_,fun i hi=>?_,fun i v hv=>?_⟩
 ·have:=hR (K:=K) (ρ:=ρ1) (H:=H1) ((List.range n).map fun (k:Nat)=>lo+(k:Int))
  rw [List.map_map,List.map_map] at this
  exact this
 ·rw [List.length_map,List.length_range] at hi;exact hi
 ·rw [List.getElem?_map] at hv
  obtain ⟨j,e1,e2⟩:=mpd hv
  obtain ⟨hlt,e3⟩:=List.getElem?_eq_some_iff.mp e1
  rw [List.length_range] at hlt
  rw [List.getElem_range] at e3
  subst e3;subst e2
  exact ⟨hlt,fun u H2 ⟨p,q⟩=>⟨p,q⟩⟩
theorem qq {K:PySem.W.Frag} {ρ:Ad} {H:Hp} {vs:List V} {j:Int} (l:RepL K ρ H vs [.int j]):vs=[.int j]:=by
 cases l with
 | cons r l=>cases l;cases r;rfl
theorem cS {p:Pos} (hg:Gl X "range") (hm:X.mg "range"=none) (ha:SA X [a] m) (hs:starEach [a] X.env=[(false,eval a X.env)]:=by kernel_rfl) (hl:iw m 1):SI X tg (.Call (.Name "range" p) [a] [] pos) (kd m):=
 (qv hg hm ha hs).imp fun σ H Q ⟨ρ,δ,h,xs,ws,h',R,S,e,k⟩=>by
  obtain ⟨⟨x,h1⟩,e1,e2⟩:=bnd e
  refine ⟨ρ,δ,h,x,h1,R,S,e1,fun vs ρ1 H1 T1 S1 r1=>?_⟩
  match x,hl _ _ _ _ e1,e2,r1 with
  | [d],hl1,e2,r1=>
   cases d <;> first | exact absurd e2 (by intro z;cases z) | skip
   rename_i j
   dsimp only at e2
   by_cases z:-(2^62)≤j∧j < 2^62
   ·rw [if_pos z] at e2
    cases e2
    refine ⟨j,qq r1,z.1,z.2,k _ ρ1 H1 T1 S1 ?_⟩
    have:=xB (K:=X.K) (ρ:=ρ1) (H:=H1) 0 j.toNat
    simpa using this
   ·rw [if_neg z] at e2;cases e2
def lu (caps:List (Option Nat)) (δ:DS):DS:=caps.map fun o=>o.bind fun i=>(δ[i]?).join
def fk:TM:=fun _ h=>some (true,h)
def cm (ws:W) (g:GM) (c:TM) (e:EM):List D→DS→MH→Option (List D×MH)
 | [],_,h=>if chk ws h then some ([],h) else none
 | x::r,δ,h=>if chk ws h then (g x δ h).bind fun q=>(c q.1 q.2).bind fun t=>if t.1 then (e q.1 t.2).bind fun y=>(cm ws g c e r q.1 y.2).map fun z=>(y.1::z.1,z.2) else cm ws g c e r q.1 t.2 else none
def dC (caps:List (Option Nat)) (i:IM) (g:GM) (c:TM) (e:EM):AM:=fun δ h=>(i δ h).bind fun p=>(cm p.2.1 g c e p.1 (lu caps δ) p.2.2).bind fun q=>if q.1.length≤sizeLine then some q else none
theorem RepS.ki {K:PySem.W.Frag} {ρ:Ad} {H:Hp} {σ:St} {δ:DS} (R:RepS K ρ H σ δ) (caps:List (Option Nat)):RepS K ρ H (ki caps σ) (lu caps δ):=by
 refine ⟨by simp [L2.ki,lu],fun i d hd=>?_⟩
 unfold lu at hd
 rw [List.getElem?_map] at hd
 obtain ⟨o,e1,e2⟩:=mpd hd
 cases o with
 | none=>cases e2
 | some j=>
  have e3:δ[j]?=some (some d):=Option.join_eq_some_iff.mp e2
  obtain ⟨v,ev,r⟩:=R.at_ j d e3
  refine ⟨v,?_,r⟩
  unfold L2.ki
  rw [List.getElem?_map,e1]
  simp [ev]
def SIf (X:Cx) (ifs:List Expr) (m:TM):Prop:=PIf X ifs (tMT X.K m)
theorem dw:SIf X [] fk:=fun pins s σ H Q I hh=>by
 obtain ⟨ρ,δ,h,b,h',R,S,e,k⟩:=hh
 cases e
 exact uM pins s σ H Q I (k ρ H (.refl _ _) S)
theorem lO (h:ST X c mt):SIf X [c] mt:=uL h
theorem pO {caps:List (Option Nat)} {mi:IM} {σ:St} {H:Hp} {Q:VK} (hh:tM X.K (eLv (dC caps mi g mt ma)) σ H Q):rB caps (tMI X.K mi) (tMG X.K g) (tMT X.K mt) (tM X.K ma) σ H Q:=by
 obtain ⟨ρ,δ,h,d,h',R,S,ee,k⟩:=hh
 obtain ⟨⟨out,h0⟩,ea,e0⟩:=mpd ee
 cases e0
 obtain ⟨⟨xs,ws,h1⟩,e1,eb⟩:=bnd ea
 obtain ⟨⟨ys,h2⟩,e2,e3⟩:=bnd eb
 dsimp only at e2 e3
 by_cases hz:ys.length≤sizeLine
 ·rw [if_pos hz] at e3
  cases e3
  refine ⟨ρ,δ,h,xs,ws,h1,R,S,e1,fun J ρ1 H1 T1 S1 It l hl=>?_⟩
  have nl:¬ρ1.has l:=S1.fresh hl
  have Tl:Ch ρ1 H1 (ρ1.keep l) (upd H1 l (.lst [])):=Ch.keep hl
  refine ⟨fun i m τ2 H2=>∃(ob2:List Addr) (δ2:DS) (h2:MH) (vs:List V) (as bs:List D),m=xs.length-i∧i≤xs.length∧Ch ρ1 H1 ⟨ob2,l::ρ1.rs⟩ H2∧(∀b∈ρ1.rs,H2 b=H1 b)∧RepS X.K ⟨ob2,l::ρ1.rs⟩ H2 τ2 δ2∧Sim X.K ⟨ob2,l::ρ1.rs⟩ h2 H2∧
    H2 l=some (.lst vs)∧RepL X.K ⟨ob2,l::ρ1.rs⟩ H2 vs as∧out=as++bs∧cm ws g mt ma (xs.drop i) δ2 h2=some (bs,h0),
   ⟨_,ρ1.ob,lu caps δ,h1,[],[],out,rfl,Nat.zero_le _,Tl,fun b hb=>aD fun z=>nl (.inr (z ▸ hb)),((R.mono T1).ki caps).mono Tl,S1.keep hl,aS,.nil,rfl,e2⟩,?_⟩
  rintro i m τ2 H2 ⟨ob2,δ2,h2,vs,as,bs,rfl,hi,T2,rs2,R2,S2,hl2,l2,eo,e3⟩
  have hsub:∀b∈ρ1.rs,b∈l::ρ1.rs:=fun b hb=>List.mem_cons_of_mem _ hb
  have C2:Ch ⟨ob2,l::ρ1.rs⟩ H2 ⟨ob2,ρ1.rs⟩ H2:=Ch.free hsub
  have T2':Stp ρ1 H1 ⟨ob2,ρ1.rs⟩ H2:=⟨T2.trans C2,rfl,rs2⟩
  have S2':Sim X.K ⟨ob2,ρ1.rs⟩ h2 H2:=S2.free hsub
  cases q:xs.drop i with
  | nil=>
   rw [q] at e3
   unfold cm at e3
   by_cases hc:chk ws h2=true
   ·rw [if_pos hc] at e3
    cases e3
    rw [List.append_nil] at eo
    subst eo
    have hle:xs.length≤i:=by have:=congrArg List.length q;rw [List.length_drop,List.length_nil] at this;omega
    refine .inl ⟨(It.run _ H2 _ T2 S2 hc i).1 hle,k _ _ ⟨_,T1.trans T2',S2',.lv hl2 (fun z=>?_) (l2.mono C2)⟩⟩
    rcases z with z | z
    ·exact (S2.rsv l List.mem_cons_self).2 z
    ·exact nl (.inr z)
   ·rw [if_neg hc] at e3;cases e3
  | cons x r=>
   rw [q] at e3
   unfold cm at e3
   by_cases hc:chk ws h2=true
   ·rw [if_pos hc] at e3
    have hx:xs[i]?=some x:=by
     have:=congrArg (fun l=>l[0]?) q
     simpa using this
    have hlt:i < xs.length:=(List.getElem?_eq_some_iff.mp hx).1
    have hr:xs.drop (i+1)=r:=by
     have:=congrArg List.tail q
     simpa using this
    obtain ⟨⟨δ3,h3⟩,e4,e5⟩:=bnd e3
    obtain ⟨⟨t,h4⟩,e6,e7⟩:=bnd e5
    dsimp only at e4 e5 e6 e7
    obtain ⟨hgo,hy⟩:=(It.run _ H2 h2 T2 S2 hc i).2 x hx
    refine .inr ⟨hgo,fun τ5 H5=>∃(ob5:List Addr) (h5:MH) (vs:List V) (as bs:List D),Ch ρ1 H1 ⟨ob5,l::ρ1.rs⟩ H5∧(∀b∈ρ1.rs,H5 b=H1 b)∧RepS X.K ⟨ob5,l::ρ1.rs⟩ H5 τ5 δ3∧Sim X.K ⟨ob5,l::ρ1.rs⟩ h5 H5∧
     H5 l=some (.lst vs)∧RepL X.K ⟨ob5,l::ρ1.rs⟩ H5 vs as∧out=as++bs∧cm ws g mt ma r δ3 h5=some (bs,h0),?_,?_⟩
    ·rintro τ5 H5 ⟨ob5,h5,vs5,as5,bs5,T5,rs5,R5,S5,hl5,l5,eo5,e5⟩
     exact ⟨xs.length-(i+1),by omega,ob5,δ3,h5,vs5,as5,bs5,rfl,hlt,T5,rs5,R5,S5,hl5,l5,eo5,by rw [hr];exact e5⟩
    ·intro v H3 y3
     obtain ⟨T3,S3,r3⟩:=hy v H3 y3
     refine ⟨⟨ob2,l::ρ1.rs⟩,δ2,h2,x,δ3,h3,R2.mono T3,S3,r3,e4,fun ρ4 H4 τ4 T4 S4 R4=>?_⟩
     refine ⟨ρ4,δ3,h3,t,h4,R4,S4,e6,fun ρ5 H5 T5 S5=>?_⟩
     have T25:Stp ⟨ob2,l::ρ1.rs⟩ H2 ρ5 H5:=T3.trans (T4.trans T5)
     obtain ⟨ob5,rs5⟩:=ρ5
     have ers:rs5=l::ρ1.rs:=T25.rs
     subst ers
     cases t with
     | false=>
      rw [if_neg (by simp)] at e7
      refine Aa ?_
      exact ⟨ob5,h4,vs,as,bs,T2.trans T25.toCh,fun b hb=>(T25.res b (hsub b hb)).trans (rs2 b hb),R4.mono T5,S5,(T25.res l List.mem_cons_self).trans hl2,l2.mono T25.toCh,eo,e7⟩
     | true=>
      rw [if_pos rfl] at e7
      refine z9 ?_
      obtain ⟨⟨y,h6⟩,e8,e9⟩:=bnd e7
      obtain ⟨⟨zs,h7⟩,e10,e11⟩:=mpd e9
      cases e11
      refine ⟨⟨ob5,l::ρ1.rs⟩,δ3,h4,y,h6,R4.mono T5,S5,e8,fun u H6 ⟨ρ6,T6,S6,r6⟩=>?_⟩
      have T26:Stp ⟨ob2,l::ρ1.rs⟩ H2 ρ6 H6:=T25.trans T6
      obtain ⟨ob6,rs6⟩:=ρ6
      have ers:rs6=l::ρ1.rs:=T26.rs
      subst ers
      have hl6:H6 l=some (.lst vs):=(T26.res l List.mem_cons_self).trans hl2
      have hml:l∈(⟨ob6,l::ρ1.rs⟩:Ad).rs:=List.mem_cons_self
      have hlen:vs.length < sizeLine:=by
       have h1:=l2.length
       have h2:=congrArg List.length eo
       rw [List.length_append,List.length_cons] at h2
       omega
      have Cp:Ch ⟨ob6,l::ρ1.rs⟩ H6 ⟨ob6,l::ρ1.rs⟩ (upd H6 l (.lst (vs++[u]))):=Ch.put hml
      refine ⟨vs,hl6,hlen,ob6,h6,vs++[u],as++[y],zs,(T2.trans T26.toCh).trans Cp,fun b hb=>?_,((R4.mono T5.toCh).mono T6.toCh).mono Cp,S6.put hml,aS,((l2.mono T26.toCh).snoc r6).mono Cp,by rw [eo];simp,e10⟩
      rw [aD (fun (z:b=l)=>nl (.inr (z ▸ hb)))]
      exact (T26.res b (hsub b hb)).trans (rs2 b hb)
   ·rw [if_neg hc] at e3;cases e3
 ·rw [if_neg hz] at e3;cases e3
end
end Sm
namespace Sm
open PySem L2 PySem.Spec PyProof.Rows
section
variable {X:Cx} {a b c e tg iter elt:Expr} {es:List Expr} {pos:Pos} {ma mb:EM} {mt:TM} {ms mu:SM} {m:AM} {g:GM} {gs:GMs}
theorem eP {N':List Str} {caps:List (Option Nat)} {scope:Scope} {ifs:List Expr} {mi:IM} (C:CompScope X N' caps scope) (hc:X.calm=true) (hi:SI X tg iter mi) (hg:∀C s₃ H₃ fp pl,SG (blk X N' scope C s₃ H₃ fp pl) tg g)
  (hif:∀C s₃ H₃ fp pl,SIf (blk X N' scope C s₃ H₃ fp pl) ifs mt) (he:∀C s₃ H₃ fp pl,SE (blk X N' scope C s₃ H₃ fp pl) elt ma) (hs:∀x,foldedSetIterable iter X.env x=pure x:=by intro _;kernel_rfl):
  SE X (.ListComp elt [⟨tg,iter,ifs,0⟩] scope pos) (eLv (dC caps mi g mt ma)):=(sx (g:=tMG X.K g) (tc:=tMT X.K mt) (te:=tM X.K ma) C hc hi hg hif he hs).imp fun _ _ _=>pO
theorem fQ {N':List Str} {caps:List (Option Nat)} {scope:Scope} {ifs:List Expr} {mi:IM} {i:Nat} {y:Str} {py spos:Pos} (hN:X.N.Nodup) (hi':X.N[i]?=some y) (hy:X.env.scope.names.lookup y=some .local) (C:CompScope X N' caps scope) (hc:X.calm=true)
  (hi:SI X tg iter mi) (hg:∀C s₃ H₃ fp pl,SG (blk X N' scope C s₃ H₃ fp pl) tg g) (hif:∀C s₃ H₃ fp pl,SIf (blk X N' scope C s₃ H₃ fp pl) ifs mt) (he:∀C s₃ H₃ fp pl,SE (blk X N' scope C s₃ H₃ fp pl) elt ma)
  (hsw:swapsWith (.ListComp elt [⟨tg,iter,ifs,0⟩] scope pos) (some (.Name y py)) spos.line X.env=pure true:=by kernel_rfl) (hs:∀x,foldedSetIterable iter X.env x=pure x:=by intro _;kernel_rfl):
  SS X (.Assign [.Name y py] (.ListComp elt [⟨tg,iter,ifs,0⟩] scope pos) spos) (bc i (eLv (dC caps mi g mt ma))):=
 (sj (g:=tMG X.K g) (tc:=tMT X.K mt) (te:=tM X.K ma) hN hi' hy C hc hi hg hif he hsw hs).imp fun E σ H hh=>by
  have q:=rY hh
  exact pO q
end
inductive SPFi (K:PySem.W.Frag) (n:Nat) (F:Fn) (vs:List V) (H:Hp) (Q:VK):Prop where
 | mk (ρ h ds d h'):Sim K ρ h H→RepL K ρ H vs ds→(ds.length=n)→(F ds h=some (d,h'))→(∀v H',c9 K ρ H h' d v H'→Q v H')→SPFi K n F vs H Q
def spF (K:PySem.W.Frag) (n:Nat) (F:Fn):Sp:=fun vs H Q _=>SPFi K n F vs H Q
section
variable {X:Cx} {e:Expr} {es:List Expr} {pos p:Pos} {m:AM} {k n:Nat} {f:Addr} {fd:FuncData} {ps:List Str} {F:Fn} {x:Str}
theorem um (G:FnOk X.prog X.w X.K X.mg X.base CX0 k f fd ps (spF X.K n F)) (hr:Room k X.A) (hg:Gl X x) (hm:X.mg x=some (.ref f)) (hk:PySem.W.keepIn X.K (.ref f)=true) (hb:Binds X.K fd ps [])
  (ha:SA X (e::es) m) (hl:iw m n) (hdb:(x==("__debug__":Str))=false:=by kernel_rfl) (he:starEach (e::es) X.env=(false,eval e X.env)::starEach es X.env:=by kernel_rfl) (hpl:(backTo pos (starEach es X.env)).any (·.1)=false:=by kernel_rfl):
  SE X (.Call (.Name x p) (e::es) [] pos) (eFn F m):=(uS (E:=E0) G hr hg hm hk hb .nil yT ha hdb he hpl).imp fun σ H Q ⟨ρ,δ,h,d,h',R,S,e,q⟩=>by
 obtain ⟨⟨ds,h1⟩,e1,e2⟩:=bnd e
 refine ⟨ρ,δ,h,ds,h1,R,S,e1,fun vs ρ1 H1 T1 S1 r1=>?_⟩
 show spF X.K n F (vs++[]) H1 Q E0
 rw [List.append_nil]
 exact ⟨ρ1,h1,ds,d,h',S1,r1,hl _ _ _ _ e1,e2,fun v H' P=>q v H' (P.step T1)⟩
end
def uu (r:Fl×DS×MH):Option (D×MH):=match r.1 with
 | .rt d=>some (d,r.2.2)
 | .nx=>some (.non,r.2.2)
 | _=>none
def entry (len:Nat) (ds:List D):DS:=ds.map some++List.replicate (len-ds.length) none
def mkF (len:Nat) (body:SM):Fn:=fun ds h=>(body (entry len ds) h).bind uu
theorem RepS.entry {K:PySem.W.Frag} {ρ:Ad} {H:Hp} {vs:List V} {ds:List D} (N:List Str) (l:RepL K ρ H vs ds):RepS K ρ H (L2.start N vs) (Sm.entry N.length ds):=by
 refine ⟨by simp [L2.start,Sm.entry,l.length],fun i d hd=>?_⟩
 unfold Sm.entry at hd
 unfold L2.start
 by_cases hi:i < ds.length
 ·rw [List.getElem?_append_left (by simpa using hi),List.getElem?_map] at hd
  obtain ⟨d',e1,e2⟩:=mpd hd
  cases e2
  obtain ⟨v,ev,r⟩:=l.got e1
  refine ⟨v,?_,r⟩
  rw [List.getElem?_append_left (by rw [List.length_map,l.length];exact hi),List.getElem?_map,ev];rfl
 ·rw [List.getElem?_append_right (by simpa using hi),List.getElem?_replicate] at hd
  split at hd <;> cases hd
section
variable {P:Program} {w:World} {K:PySem.W.Frag} {mg:Str→Option Value} {base:Heap} {x qual:Str} {st:Stmt} {f:Addr} {fd:FuncData} {N ps:List Str} {k:Nat}
theorem bG {body:SM} (F:Fun K x qual st f fd) (Sc:FnScope N ps (aB st))
  (hb:∀(cdv:Value) (A:Around) (outer:List Env) (s:Shared) (H:Hp) (E:XK),Room k (A.deeper (envOfC qual (aB st) s.heap.objs.size f cdv))→SSs (pv CX0 P w K mg base N qual (aB st) f cdv A outer s H E).nox (fc st) body):
  FnOk P w K mg base CX0 (k+1) f fd ps (spF K ps.length (mkF N.length body)):=by
 refine F.ok Sc (fun vs H Q E h=>?_) (fun cdv A outer s H vs Q E hr h=>?_)
 ·obtain ⟨ρ,h,ds,d,h',S,r,hl,_⟩:=h
  rw [r.length];exact hl
 ·obtain ⟨ρ,h,ds,d,h',S,r,hl,e,q⟩:=h
  refine ⟨_,hb cdv A outer s H E hr,?_⟩
  obtain ⟨⟨fl,δ1,h1⟩,e1,e2⟩:=bnd e
  refine ⟨ρ,entry N.length ds,h,fl,δ1,h1,RepS.entry N r,S,e1,fun ρ1 H1 T1 S1=>?_⟩
  cases fl with
  | nx=>cases e2;exact fun σ' R'=>q _ _ ⟨ρ1,T1,S1,.non⟩
  | rt d=>cases e2;exact fun v r=>q _ _ ⟨ρ1,T1,S1,r⟩
  | bk=>cases e2
  | ct=>cases e2
end
mutual
def clD (n:Nat):D→Bool
 | .tup xs=>clL n xs
 | .lv xs=>clL n xs
 | .ro xs=>clL n xs
 | .dv kvs=>clK n kvs
 | .ob m=>decide (m < n)
 | _=>true
def clL (n:Nat):List D→Bool
 | []=>true
 | x::r=>clD n x&&clL n r
def clK (n:Nat):List (Key×D)→Bool
 | []=>true
 | (_,x)::r=>clD n x&&clK n r
end
def clO (n:Nat):MO→Bool
 | .lst xs=>clL n xs
 | .dct kvs=>clK n kvs
abbrev Ad.cut (ρ:Ad) (n:Nat):Ad:=⟨ρ.ob.take n,ρ.rs⟩
theorem Ad.gQ {ρ:Ad} {n:Nat} {a:Addr} (h:(ρ.cut n).has a):ρ.has a:=h.elim (fun m=>.inl (List.mem_of_mem_take m)) .inr
mutual
theorem Rep.cut {K:PySem.W.Frag} {ρ:Ad} {H:Hp} {n:Nat}:∀{v:V} {d:D},Rep K ρ H v d→clD n d=true→Rep K (ρ.cut n) H v d
 | _,_,.non,_=>.non
 | _,_,.bl b,_=>.bl b
 | _,_,.int i,_=>.int i
 | _,_,.str x,_=>.str x
 | _,_,.ty n,_=>.ty n
 | _,_,.tup h l,c=>.tup (h.elim (fun ⟨a,n⟩=>.inl ⟨a,fun m=>n (Ad.gQ m)⟩) .inr) (RepL.cut l (by simpa [clD] using c))
 | _,_,.lv h n l,c=>.lv h (fun m=>n (Ad.gQ m)) (RepL.cut l (by simpa [clD] using c))
 | _,_,.ro h l,c=>.ro (h.elim (fun ⟨a,n⟩=>.inl ⟨a,fun m=>n (Ad.gQ m)⟩) .inr) (RepL.cut l (by simpa [clD] using c))
 | _,_,.dv h n l,c=>.dv h (fun m=>n (Ad.gQ m)) (RepK.cut l (by simpa [clD] using c))
 | _,_,.ob (n:=m) e,c=>.ob (by
   have hm:m < n:=by simpa [clD] using c
   show (ρ.ob.take n)[m]?=_
   rw [List.getElem?_take_of_lt hm];exact e)
theorem RepL.cut {K:PySem.W.Frag} {ρ:Ad} {H:Hp} {n:Nat}:∀{v:List V} {d:List D},RepL K ρ H v d→clL n d=true→RepL K (ρ.cut n) H v d
 | _,_,.nil,_=>.nil
 | _,_,.cons r l,c=>by
  simp only [clL,Bool.and_eq_true] at c
  exact .cons (Rep.cut r c.1) (RepL.cut l c.2)
theorem RepK.cut {K:PySem.W.Frag} {ρ:Ad} {H:Hp} {n:Nat}:∀{v:List (Key×V)} {d:List (Key×D)},RepK K ρ H v d→clK n d=true→RepK K (ρ.cut n) H v d
 | _,_,.nil,_=>.nil
 | _,_,.cons r l,c=>by
  simp only [clK,Bool.and_eq_true] at c
  exact .cons (Rep.cut r c.1) (RepK.cut l c.2)
end
mutual
theorem Rep.clean {K:PySem.W.Frag} {ρ:Ad} {H:Hp}:∀{v:V} {d:D},Rep K ρ H v d→clD ρ.ob.length d=true
 | _,_,.non=>rfl
 | _,_,.bl b=>rfl
 | _,_,.int i=>rfl
 | _,_,.str x=>rfl
 | _,_,.ty n=>rfl
 | _,_,.tup h l=>by simp [clD];exact RepL.clean l
 | _,_,.lv h n l=>by simp [clD];exact RepL.clean l
 | _,_,.ro h l=>by simp [clD];exact RepL.clean l
 | _,_,.dv h n l=>by simp [clD];exact RepK.clean l
 | _,_,.ob e=>by simp [clD];exact (List.getElem?_eq_some_iff.mp e).1
theorem RepL.clean {K:PySem.W.Frag} {ρ:Ad} {H:Hp}:∀{v:List V} {d:List D},RepL K ρ H v d→clL ρ.ob.length d=true
 | _,_,.nil=>rfl
 | _,_,.cons r l=>by simp [clL];exact ⟨Rep.clean r,RepL.clean l⟩
theorem RepK.clean {K:PySem.W.Frag} {ρ:Ad} {H:Hp}:∀{v:List (Key×V)} {d:List (Key×D)},RepK K ρ H v d→clK ρ.ob.length d=true
 | _,_,.nil=>rfl
 | _,_,.cons r l=>by simp [clK];exact ⟨Rep.clean r,RepK.clean l⟩
end
theorem ObR.cut {K:PySem.W.Frag} {ρ:Ad} {H:Hp} {n:Nat} {a:Addr} {o:MO} (x:ObR K ρ H a o) (c:clO n o=true):ObR K (ρ.cut n) H a o:=by
 cases o with
 | lst ds=>obtain ⟨vs,e,l⟩:=x;exact ⟨vs,e,l.cut c⟩
 | dct ds=>obtain ⟨vs,e,l⟩:=x;exact ⟨vs,e,l.cut c⟩
theorem ObR.clean {K:PySem.W.Frag} {ρ:Ad} {H:Hp} {a:Addr} {o:MO} (x:ObR K ρ H a o):clO ρ.ob.length o=true:=by
 cases o with
 | lst ds=>obtain ⟨vs,e,l⟩:=x;exact l.clean
 | dct ds=>obtain ⟨vs,e,l⟩:=x;exact l.clean
def qh (n:Nat) (h:MH) (d:D):D:=match d with
 | .ob m=>if m < n then .ob m else match h[m]? with
  | some (.lst xs)=>.lv xs
  | some (.dct kvs)=>.dv kvs
  | none=>.ob m
 | d=>d
def leave (h:MH) (d:D) (h':MH):Option (D×MH):=
 if clD h.length (qh h.length h' d)&&(nr (h'.take h.length) h||(h'.take h.length).all (clO h.length)) then some (qh h.length h' d,h'.take h.length) else none
def mkL (len:Nat) (body:SM):Fn:=fun ds h=>((body (entry len ds) h).bind uu).bind fun p=>leave h p.1 p.2
theorem c9.leave {K:PySem.W.Frag} {ρ:Ad} {H H':Hp} {h h1 h':MH} {d d':D} {v:V} (S:Sim K ρ h H) (p:c9 K ρ H h1 d v H') (e:Sm.leave h d h1=some (d',h')):c9 K ρ H h' d' v H':=by
 obtain ⟨ρ1,T,S1,r⟩:=p
 unfold Sm.leave at e
 by_cases hc:(clD h.length (qh h.length h1 d)&&(nr (h1.take h.length) h||(h1.take h.length).all (clO h.length)))=true
 ·rw [if_pos hc] at e
  cases e
  rw [Bool.and_eq_true] at hc
  obtain ⟨c1,c2⟩:=hc
  have hle:h.length≤h1.length:=by
   rw [←S.len,←S1.len]
   refine Nat.le_of_not_lt fun hlt=>?_
   have e1:ρ.ob[ρ1.ob.length]?=some ρ.ob[ρ1.ob.length]:=List.getElem?_eq_getElem hlt
   have:=(List.getElem?_eq_some_iff.mp (T.pre _ _ e1)).1
   omega
  have hall:∀(m:Nat) o,m < h.length→h1[m]?=some o→clO h.length o=true:=by
   intro m o hm ho
   rw [Bool.or_eq_true] at c2
   rcases c2 with c2 | c2
   ·have e1:=qa c2
    have e2:h[m]?=some o:=by rw [←e1,List.getElem?_take_of_lt hm];exact ho
    have hm':m < ρ.ob.length:=by rw [S.len];exact hm
    have:=(S.at_ m _ o (List.getElem?_eq_getElem hm') e2).clean
    rw [S.len] at this
    exact this
   ·rw [List.all_eq_true] at c2
    exact c2 o (List.mem_of_getElem? (show (h1.take h.length)[m]?=some o by rw [List.getElem?_take_of_lt hm];exact ho))
  have Sc:Sim K (ρ1.cut h.length) (h1.take h.length) H':=by
   refine ⟨by simp [S1.len],S1.nd.sublist (List.take_sublist _ _),fun n a o e1 e2=>?_,fun b hb=>⟨(S1.rsv b hb).1,fun m=>(S1.rsv b hb).2 (List.mem_of_mem_take m)⟩⟩
   have hn:n < h.length:=by
    have:=(List.getElem?_eq_some_iff.mp e2).1
    rw [List.length_take] at this
    omega
   have e1:(ρ1.ob.take h.length)[n]?=some a:=e1
   rw [List.getElem?_take_of_lt hn] at e1 e2
   exact (S1.at_ n a o e1 e2).cut (hall n o hn e2)
  refine ⟨ρ1.cut h.length,⟨⟨fun n a e=>?_,fun b o n e=>?_⟩,T.rs,T.res⟩,Sc,?_⟩
  ·have hn:n < h.length:=by rw [←S.len];exact (List.getElem?_eq_some_iff.mp e).1
   show (ρ1.ob.take h.length)[n]?=some a
   rw [List.getElem?_take_of_lt hn]
   exact T.pre n a e
  ·obtain ⟨n1,e1⟩:=T.old b o n e
   exact ⟨fun m=>n1 (Ad.gQ m),e1⟩
  ·cases d with
   | ob m=>
    unfold qh at c1 ⊢
    dsimp only at c1 ⊢
    by_cases hm:m < h.length
    ·rw [if_pos hm] at c1 ⊢
     exact r.cut c1
    ·rw [if_neg hm] at c1 ⊢
     cases r with
     | ob hn=>
      rename_i a
      have na:¬(ρ1.cut h.length).has a:=by
       intro z
       rcases z with z | z
       ·obtain ⟨j,hj⟩:=List.getElem?_of_mem z
        have hj1:j < h.length:=by
         have:=(List.getElem?_eq_some_iff.mp hj).1
         rw [List.length_take] at this
         omega
        rw [List.getElem?_take_of_lt hj1] at hj
        have:=(List.getElem?_inj (List.getElem?_eq_some_iff.mp hj).1 S1.nd).mp (hj.trans hn.symm)
        omega
       ·exact (S1.rsv a z).2 (List.mem_of_getElem? hn)
      cases q:h1[m]? with
      | none=>rw [q] at c1;exact absurd c1 (by simp [clD];omega)
      | some o=>
       have x:=S1.at_ m a o hn q
       cases o with
       | lst xs=>
        rw [q] at c1
        obtain ⟨vs,e1,l⟩:=x
        exact .lv e1 na (l.cut (by simpa [clD] using c1))
       | dct xs=>
        rw [q] at c1
        obtain ⟨vs,e1,l⟩:=x
        exact .dv e1 na (l.cut (by simpa [clD] using c1))
   | _=>exact r.cut c1
 ·rw [if_neg hc] at e;cases e
section
variable {P:Program} {w:World} {K:PySem.W.Frag} {mg:Str→Option Value} {base:Heap} {x qual:Str} {st:Stmt} {f:Addr} {fd:FuncData} {N ps:List Str} {k:Nat}
theorem eG {body:SM} (G:FnOk P w K mg base CX0 k f fd ps (spF K ps.length (mkF N.length body))):FnOk P w K mg base CX0 k f fd ps (spF K ps.length (mkL N.length body)):=by
 refine G.imp fun vs H Q E hh=>?_
 obtain ⟨ρ,h,ds,d,h',S,r,hl,e,q⟩:=hh
 obtain ⟨⟨d1,h1⟩,e1,e2⟩:=bnd e
 exact ⟨ρ,h,ds,d1,h1,S,r,hl,e1,fun v H' p=>q v H' (p.leave S e2)⟩
end
def spT (K:PySem.W.Frag):Sp:=fun vs H Q _=>∃(a:Addr) (ns:List Int),vs=[.ref a]∧SqL K H a (ns.map V.int)∧ns.length≤63∧∀H',Q (.bl true) H'
theorem uZ {P:Program} {w:World} {K:PySem.W.Frag} {mg:Str→Option Value} {base:Heap} {k:Nat} {f:Addr} {fd:FuncData} {ps:List Str} {F:Fn} (G:FnOk P w K mg base CX0 k f fd ps (spF K 1 F))
  (hF:∀ns:List Int,ns.length≤63→∃h',F [.ro (ns.map D.int)] []=some (.bl true,h')):FnOk P w K mg base CX0 k f fd ps (spT K):=by
 refine G.imp fun vs H Q E hh=>?_
 obtain ⟨a,ns,rfl,ha,hl,q⟩:=hh
 obtain ⟨h',e⟩:=hF ns hl
 refine ⟨⟨[],[]⟩,[],[.ro (ns.map D.int)],.bl true,h',⟨rfl,List.nodup_nil,fun n a o e=>by simp at e,fun b hb=>absurd hb (by simp)⟩,.cons (.ro ?_ (hR ns)) .nil,rfl,e,fun v H' ⟨ρ',T,S,r⟩=>?_⟩
 ·rcases ha with ha | ha
  ·exact .inl ⟨ha,fun z=>z.elim (fun z=>absurd z (by simp)) fun z=>absurd z (by simp)⟩
  ·exact .inr (.inr ha)
 ·cases r
  exact q H'
end Sm
namespace Sm
open PySem L2 PySem.Spec PyProof.Rows
mutual
def pyD:D→Option PyData
 | .non=>some .none
 | .bl b=>some (.bool b)
 | .int i=>some (.int i)
 | .str x=>some (.str x)
 | .tup xs=>(pyL xs).map .tuple
 | .lv xs=>(pyL xs).map .list
 | .ro xs=>(pyL xs).map .list
 | _=>none
def pyL:List D→Option (List PyData)
 | []=>some []
 | x::r=>(pyD x).bind fun a=>(pyL r).map fun b=>a::b
end
def rdD (h:MH) (d:D):Option PyData:=match d with
 | .ob n=>match h[n]? with
  | some (.lst xs)=>(pyL xs).map .list
  | _=>none
 | d=>pyD d
mutual
theorem Rep.rds {K:PySem.W.Frag} {ρ:Ad} {H:Hp}:∀{v:V} {d:D} {p:PyData},Rep K ρ H v d→pyD d=some p→Rds K H v p∧p.canLay0=true
 | _,_,_,.non,e=>by cases e;exact ⟨.non,rfl⟩
 | _,_,_,.bl b,e=>by cases e;exact ⟨.bl b,rfl⟩
 | _,_,_,.int i,e=>by cases e;exact ⟨.int i,rfl⟩
 | _,_,_,.str hs,e=>by cases e;exact ⟨.str _,by simpa [PyData.canLay0] using hs⟩
 | _,_,_,.ty n,e=>by cases e
 | _,_,_,.tup h l,e=>by
  simp only [pyD] at e
  obtain ⟨q,e1,e2⟩:=mpd e
  subst e2
  obtain ⟨a,b⟩:=RepL.rds l e1
  exact ⟨.tup h.sq a,by simpa [PyData.canLay0] using b⟩
 | _,_,_,.lv h n l,e=>by
  simp only [pyD] at e
  obtain ⟨q,e1,e2⟩:=mpd e
  subst e2
  obtain ⟨a,b⟩:=RepL.rds l e1
  exact ⟨.lst (SqL.of h) a,by simpa [PyData.canLay0] using b⟩
 | _,_,_,.ro h l,e=>by
  simp only [pyD] at e
  obtain ⟨q,e1,e2⟩:=mpd e
  subst e2
  obtain ⟨a,b⟩:=RepL.rds l e1
  exact ⟨.lst h.sq a,by simpa [PyData.canLay0] using b⟩
 | _,_,_,.dv h n l,e=>by simp [pyD] at e
 | _,_,_,.ob h,e=>by simp [pyD] at e
theorem RepL.rds {K:PySem.W.Frag} {ρ:Ad} {H:Hp}:∀{v:List V} {d:List D} {p:List PyData},RepL K ρ H v d→pyL d=some p→RdsL K H v p∧PyData.canLayAll0 p=true
 | _,_,_,.nil,e=>by cases e;exact ⟨.nil,rfl⟩
 | _,_,_,.cons r l,e=>by
  simp only [pyL] at e
  obtain ⟨a,e1,e2⟩:=bnd e
  obtain ⟨b,e3,e4⟩:=mpd e2
  subst e4
  obtain ⟨a1,a2⟩:=Rep.rds r e1
  obtain ⟨b1,b2⟩:=RepL.rds l e3
  exact ⟨.cons a1 b1,by simp [PyData.canLayAll0,a2,b2]⟩
end
section
variable {K:PySem.W.Frag} {ρ:Ad} {H:Hp} {h:MH} {v:V} {d:D}
theorem l9 {p:PyData} (S:Sim K ρ h H) (r:Rep K ρ H v d) (e:rdD h d=some p):Rds K H v p∧p.canLay0=true:=by
 cases r with
 | @ob a n hn=>
  unfold rdD at e
  dsimp only at e
  cases q:h[n]? with
  | none=>rw [q] at e;cases e
  | some o=>
   rw [q] at e
   cases o with
   | dct _=>cases e
   | lst xs=>
    obtain ⟨vs,e1,l⟩:=S.at_ n a _ hn q
    obtain ⟨b,e3,e4⟩:=mpd e
    subst e4
    obtain ⟨b1,b2⟩:=l.rds e3
    exact ⟨.lst (SqL.of e1) b1,by simpa [PyData.canLay0] using b2⟩
 | non=>exact Rep.rds (Rep.non (ρ:=ρ)) e
 | bl b=>exact Rep.rds (Rep.bl (ρ:=ρ) b) e
 | int i=>exact Rep.rds (Rep.int (ρ:=ρ) i) e
 | str x=>exact Rep.rds (Rep.str (ρ:=ρ) x) e
 | ty n=>exact Rep.rds (Rep.ty (ρ:=ρ) n) e
 | tup h l=>exact Rep.rds (.tup h l) e
 | lv h n l=>exact Rep.rds (.lv h n l) e
 | ro h l=>exact Rep.rds (.ro h l) e
 | dv h n l=>exact Rep.rds (.dv h n l) e
def eB (d:D) (h:MH):Option (List D):=match d with
 | .lv xs=>some xs
 | .ob n=>match h[n]? with
  | some (.lst xs)=>some xs
  | _=>none
 | _=>none
theorem dy {xs:List D} (S:Sim K ρ h H) (r:Rep K ρ H v d) (e:eB d h=some xs):∃a vs,v=.ref a∧H a=some (.lst vs)∧RepL K ρ H vs xs:=by
 cases r with
 | @ob a n hn=>
  unfold eB at e
  dsimp only at e
  cases q:h[n]? with
  | none=>rw [q] at e;cases e
  | some o=>
   rw [q] at e
   cases o with
   | dct _=>cases e
   | lst ys=>
    cases e
    obtain ⟨vs,e1,l⟩:=S.at_ n a _ hn q
    exact ⟨a,vs,rfl,e1,l⟩
 | lv h n l=>cases e;exact ⟨_,_,rfl,h,l⟩
 | _=>cases e
def df (d:D) (h:MH):Option (List (Key×D)):=match d with
 | .dv kvs=>some kvs
 | .ob n=>match h[n]? with
  | some (.dct kvs)=>some kvs
  | _=>none
 | _=>none
theorem gP {xs:List (Key×D)} (S:Sim K ρ h H) (r:Rep K ρ H v d) (e:df d h=some xs):∃a vs,v=.ref a∧H a=some (.dK vs)∧RepK K ρ H vs xs:=by
 cases r with
 | @ob a n hn=>
  unfold df at e
  dsimp only at e
  cases q:h[n]? with
  | none=>rw [q] at e;cases e
  | some o=>
   rw [q] at e
   cases o with
   | lst _=>cases e
   | dct ys=>
    cases e
    obtain ⟨vs,e1,l⟩:=S.at_ n a _ hn q
    exact ⟨a,vs,rfl,e1,l⟩
 | dv h n l=>cases e;exact ⟨_,_,rfl,h,l⟩
 | _=>cases e
theorem iR {xs:List D} {ws:W} (S:Sim K ρ h H) (r:Rep K ρ H v d) (e:cH d h=some (xs,ws)):∃a vs,v=.ref a∧(SqL K H a vs∨SqT K H a vs)∧RepL K ρ H vs xs:=by
 obtain ⟨a,e1,⟨vs,q,l⟩,_⟩:=fu S r e
 refine ⟨a,vs,e1,?_,l⟩
 generalize iN d=b at q
 cases q with
 | l q=>exact .inl q
 | t q=>exact .inr q
def qI:D→Option Key
 | .int i=>some (.inl i)
 | .str x=>some (.inr x)
 | _=>none
def lI (kvs:List (Key×D)) (k:Key):Option D:=(kvs.find? fun kv=>decide (kv.1=k)).map (·.2)
def putD (kvs:List (Key×D)) (k:Key) (v:D):List (Key×D):=
 if (kvs.any fun kv=>decide (kv.1=k))=true then kvs.map (fun kv=>if kv.1=k then (kv.1,v) else kv) else kvs++[(k,v)]
theorem iW {k:Key} (r:Rep K ρ H v d) (e:qI d=some k):v=kV k:=by
 cases r with
 | int i=>cases e;rfl
 | str x=>cases e;rfl
 | _=>cases e
theorem RepK.val:∀{us:List (Key×V)} {kvs:List (Key×D)} (k:Key),RepK K ρ H us kvs→(lI kvs k=none∧fh us k=none)∨∃d v,lI kvs k=some d∧fh us k=some v∧Rep K ρ H v d
 | _,_,k,.nil=>.inl ⟨rfl,rfl⟩
 | _,_,k,.cons (k:=j) (v:=v) (vs:=vs) (d:=d) (ds:=ds) r l=>by
  by_cases z:j=k
  ·exact .inr ⟨d,v,by simp [lI,z],by simp [fh,z],r⟩
  ·have h1:lI ((j,d)::ds) k=lI ds k:=by simp only [lI,List.find?_cons,z,decide_false]
   have h2:fh ((j,v)::vs) k=fh vs k:=gy z
   rw [h1,h2]
   exact RepK.val k l
theorem RepK.length:∀{us:List (Key×V)} {kvs:List (Key×D)},RepK K ρ H us kvs→us.length=kvs.length
 | _,_,.nil=>rfl
 | _,_,.cons _ l=>by rw [List.length_cons,List.length_cons,RepK.length l]
theorem RepK.any (k:Key):∀{us:List (Key×V)} {kvs:List (Key×D)},RepK K ρ H us kvs→(us.any fun kv=>decide (kv.1=k))=(kvs.any fun kv=>decide (kv.1=k))
 | _,_,.nil=>rfl
 | _,_,.cons _ l=>by rw [List.any_cons,List.any_cons,RepK.any k l]
theorem RepK.map {k:Key} {v:V} {d:D} (r:Rep K ρ H v d):∀{us:List (Key×V)} {kvs:List (Key×D)},RepK K ρ H us kvs→RepK K ρ H (us.map fun kv=>if kv.1=k then (kv.1,v) else kv) (kvs.map fun kv=>if kv.1=k then (kv.1,d) else kv)
 | _,_,.nil=>.nil
 | _,_,.cons (k:=j) q l=>by
  rw [List.map_cons,List.map_cons]
  by_cases z:j=k
  ·rw [if_pos z,if_pos z];exact .cons r (RepK.map r l)
  ·rw [if_neg z,if_neg z];exact .cons q (RepK.map r l)
theorem RepK.append:∀{us vs:List (Key×V)} {ks ls:List (Key×D)},RepK K ρ H us ks→RepK K ρ H vs ls→RepK K ρ H (us++vs) (ks++ls)
 | _,_,_,_,.nil,t=>t
 | _,_,_,_,.cons r l,t=>.cons r (RepK.append l t)
theorem RepK.put {us:List (Key×V)} {kvs:List (Key×D)} {k:Key} (l:RepK K ρ H us kvs) {v:V} {d:D} (r:Rep K ρ H v d):RepK K ρ H (putK us k v) (putD kvs k d):=by
 unfold putK putD
 rw [l.any k]
 by_cases z:(kvs.any fun kv=>decide (kv.1=k))=true
 ·rw [if_pos z,if_pos z];exact l.map r
 ·rw [if_neg z,if_neg z];exact l.append (.cons r .nil)
end
def qQ (d e:D) (h:MH):Option (D×MH):=match d,e with
 | .int i,.int j=>some (.int (i+j),h)
 | .str a,.str b=>if a.length+b.length≤sizeLine then some (.str (a++b),h) else none
 | .tup [],.tup _=>none
 | .tup (x::xs),.tup ys=>if xs.length+1+ys.length≤sizeLine then some (.tup (x::xs++ys),h) else none
 | d,e=>(eB d h).bind fun xs=>(eB e h).bind fun ys=>if xs.length+ys.length≤sizeLine then some (.lv (xs++ys),h) else none
def o7 (d e:D) (h:MH):Option (D×MH):=match d,e with
 | .int i,.int j=>some (.int (i-j),h)
 | _,_=>none
def gI (i j:Int):Bool:=(decide (-(2^64) < i)&&decide (i < 2^64))||(decide (-(2^64) < j)&&decide (j < 2^64))
def xH (d e:D) (h:MH):Option (D×MH):=match d,e with
 | .int i,.int j=>if gI i j then some (.int (i*j),h) else none
 | _,_=>none
def jC (d e:D) (h:MH):Option (D×MH):=match d,e with
 | .int i,.int j=>if 0 < j then some (.int (i % j),h) else none
 | _,_=>none
def sY (d e:D) (h:MH):Option (D×MH):=match d,e with
 | .int i,.int j=>if 0 < j∧j≤10^40 then some (.int (i / j),h) else none
 | _,_=>none
def u7 (d e:D) (h:MH):Option (D×MH):=match d,e with
 | .int i,.int j=>if 0≤j∧j≤1000000∧i.natAbs < 2^64 then some (.int (i^j.toNat),h) else none
 | _,_=>none
def tJ (f:Int→Int→Bool) (d e:D) (h:MH):Option (D×MH):=match d,e with
 | .int i,.int j=>some (.bl (f i j),h)
 | _,_=>none
def fLt:=tJ fun i j=>decide (i < j)
def fLe:=tJ fun i j=>decide (i≤j)
def fGt:=tJ fun i j=>decide (j < i)
def fGe:=tJ fun i j=>decide (j≤i)
def eqD (d e:D) (h:MH):Option Bool:=(rdD h d).bind fun a=>(rdD h e).bind fun b=>if a.depth≤64∧b.depth≤64 then some (PyData.eqv a b) else none
def isN:D→Bool
 | .non=>true
 | _=>false
def vb (d e:D) (h:MH):Option (D×MH):=match e with
 | .non=>some (.bl (isN d),h)
 | _=>none
def iI (d:D) (h:MH):Option (D×MH):=match d with
 | .int i=>some (.int (-i),h)
 | _=>none
def inD (d e:D) (h:MH):Option Bool:=match df e h with
 | some kvs=>(qI d).map fun k=>(lI kvs k).isSome
 | none=>match d,e with
  | .str x,.str y=>some (!(Builtin.Str.occurrences y x 0 y.length 1).isEmpty)
  | d,e=>(cH e h).bind fun p=>(rdD h d).bind fun a=>(pyL p.1).bind fun bs=>if a.depth≤60∧PyData.depthAll bs≤60 then some (bs.any fun b=>PyData.eqv b a) else none
def mK (d e:D) (h:MH):Option (D×MH):=(inD d e h).map fun c=>(.bl (!c),h)
def fIx (d e:D) (h:MH):Option (D×MH):=match df d h with
 | some kvs=>(qI e).bind fun k=>(lI kvs k).map fun z=>(z,h)
 | none=>match d,e with
  | .str z,.int i=>if z.length≤sizeLine then (atI z.cps.toList i).map fun c=>(.str ⟨#[c]⟩,h) else none
  | d,.int i=>(cH d h).bind fun p=>(atI p.1 i).map fun z=>(z,h)
  | _,_=>none
end Sm
namespace Sm
open PySem L2 PySem.Spec PyProof.Rows
section
variable {X:Cx}
theorem mn {g:Value→Value→Sem Value} {C:Int→Int→Prop} {q:Int→Int→V} {f:D→D→MH→Option (D×MH)} (ho:OpR X g (rI C q))
  (hf:∀d e h z h',f d e h=some (z,h')→∃i j,d=.int i∧e=.int j∧C i j∧h'=h∧∀ρ H,Rep X.K ρ H (q i j) z):OpS X g f:=by
 intro pins s σ H x y v u Q I rx ry hh
 obtain ⟨ρ,h,d,e,z,h',S,rd,re,ee,k⟩:=hh
 obtain ⟨i,j,rfl,rfl,c,rfl,rz⟩:=hf _ _ _ _ _ ee
 cases rd;cases re
 exact ho pins s σ H _ _ v u Q I rx ry ⟨i,j,rfl,rfl,c,k _ _ (.here S (rz _ _))⟩
theorem iU {g:Value→Value→Sem Value} {q:Int→Int→V} {f:D→D→MH→Option (D×MH)} (ho:OpR X g (rI0 q))
  (hf:∀d e h z h',f d e h=some (z,h')→∃i j,d=.int i∧e=.int j∧h'=h∧∀ρ H,Rep X.K ρ H (q i j) z):OpS X g f:=by
 intro pins s σ H x y v u Q I rx ry hh
 obtain ⟨ρ,h,d,e,z,h',S,rd,re,ee,k⟩:=hh
 obtain ⟨i,j,rfl,rfl,rfl,rz⟩:=hf _ _ _ _ _ ee
 cases rd;cases re
 exact ho pins s σ H _ _ v u Q I rx ry ⟨i,j,rfl,rfl,k _ _ (.here S (rz _ _))⟩
theorem jt:OpS X (binaryOp .Sub) o7:=iU xb fun d e h z h' ee=>by
 cases d <;> first | (cases ee;done) | skip
 cases e <;> first | (cases ee;done) | skip
 cases ee;exact ⟨_,_,rfl,rfl,rfl,fun _ _=>.int _⟩
theorem w6:OpS X (binaryOp .Mult) xH:=mn xg fun d e h z h' ee=>by
 cases d <;> first | (cases ee;done) | skip
 cases e <;> first | (cases ee;done) | skip
 rename_i i j
 unfold xH at ee
 dsimp only at ee
 by_cases c:gI i j=true
 ·rw [if_pos c] at ee;cases ee
  refine ⟨i,j,rfl,rfl,?_,rfl,fun _ _=>.int _⟩
  unfold gI at c
  simp only [Bool.or_eq_true,Bool.and_eq_true,decide_eq_true_eq] at c
  exact c
 ·rw [if_neg c] at ee;cases ee
theorem gq:OpS X (binaryOp .Mod) jC:=mn xh fun d e h z h' ee=>by
 cases d <;> first | (cases ee;done) | skip
 cases e <;> first | (cases ee;done) | skip
 rename_i i j
 unfold jC at ee
 dsimp only at ee
 by_cases c:0 < j
 ·rw [if_pos c] at ee;cases ee;exact ⟨i,j,rfl,rfl,c,rfl,fun _ _=>.int _⟩
 ·rw [if_neg c] at ee;cases ee
theorem w9:OpS X (binaryOp .FloorDiv) sY:=mn sG fun d e h z h' ee=>by
 cases d <;> first | (cases ee;done) | skip
 cases e <;> first | (cases ee;done) | skip
 rename_i i j
 unfold sY at ee
 dsimp only at ee
 by_cases c:0 < j∧j≤10^40
 ·rw [if_pos c] at ee;cases ee;exact ⟨i,j,rfl,rfl,c,rfl,fun _ _=>.int _⟩
 ·rw [if_neg c] at ee;cases ee
theorem sE:OpS X (binaryOp .Pow) u7:=mn xf fun d e h z h' ee=>by
 cases d <;> first | (cases ee;done) | skip
 cases e <;> first | (cases ee;done) | skip
 rename_i i j
 unfold u7 at ee
 dsimp only at ee
 by_cases c:0≤j∧j≤1000000∧i.natAbs < 2^64
 ·rw [if_pos c] at ee;cases ee;exact ⟨i,j,rfl,rfl,c,rfl,fun _ _=>.int _⟩
 ·rw [if_neg c] at ee;cases ee
theorem tI {f:Int→Int→Bool} {d e z:D} {h h':MH} (ee:tJ f d e h=some (z,h')):∃i j,d=.int i∧e=.int j∧h'=h∧z=.bl (f i j):=by
 cases d <;> first | (cases ee;done) | skip
 cases e <;> first | (cases ee;done) | skip
 cases ee;exact ⟨_,_,rfl,rfl,rfl,rfl⟩
theorem nP:OpS X (compareOp .Lt) fLt:=iU yU fun d e h z h' ee=>by
 obtain ⟨i,j,rfl,rfl,rfl,rfl⟩:=tI ee;exact ⟨i,j,rfl,rfl,rfl,fun _ _=>.bl _⟩
theorem iE:OpS X (compareOp .Gt) fGt:=iU yV fun d e h z h' ee=>by
 obtain ⟨i,j,rfl,rfl,rfl,rfl⟩:=tI ee;exact ⟨i,j,rfl,rfl,rfl,fun _ _=>.bl _⟩
theorem vA:OpS X (compareOp .GtE) fGe:=iU yW fun d e h z h' ee=>by
 obtain ⟨i,j,rfl,rfl,rfl,rfl⟩:=tI ee;exact ⟨i,j,rfl,rfl,rfl,fun _ _=>.bl _⟩
theorem fo:UnR X (unaryOp .USub) (rU X.K iI):=by
 intro pins s σ H x v Q I rx hh
 obtain ⟨ρ,h,d,z,h',S,rd,ee,k⟩:=hh
 cases rd <;> first | (cases ee;done) | skip
 cases ee
 exact vF pins s σ H _ v Q I rx ⟨_,rfl,k _ _ (.here S (.int _))⟩
theorem xa:OpS X (binaryOp .Add) qQ:=by
 intro pins s σ H x y v u Q I rx ry hh
 obtain ⟨ρ,h,d,e,z,h',S,rd,re,ee,k⟩:=hh
 have lists:((eB d h).bind fun xs=>(eB e h).bind fun ys=>if xs.length+ys.length≤sizeLine then some (D.lv (xs++ys),h) else none)=some (z,h')→wpAny (model X.prog X.w) X.A (binaryOp .Add v u) (EP X pins σ Q) X.xe s:=by
  intro ee
  obtain ⟨xs,e1,e4⟩:=bnd ee
  obtain ⟨ys,e2,e3⟩:=bnd e4
  by_cases c:xs.length+ys.length≤sizeLine
  ·rw [if_pos c] at e3;cases e3
   obtain ⟨a,vs,rfl,ha,la⟩:=dy S rd e1
   obtain ⟨b,us,rfl,hb,lb⟩:=dy S re e2
   exact sI pins s σ H _ _ v u Q I rx ry ⟨a,b,vs,us,rfl,rfl,ha,hb,by rw [la.length,lb.length];exact c,fun p hp=>k _ _ (.lv S (la.append lb) hp)⟩
  ·rw [if_neg c] at e3;cases e3
 cases d with
 | int i=>
  cases e <;> first | (cases ee;done) | skip
  cases ee;cases rd;cases re
  exact xj pins s σ H _ _ v u Q I rx ry ⟨_,_,rfl,rfl,k _ _ (.here S (.int _))⟩
 | str a=>
  cases e <;> first | (cases ee;done) | skip
  rename_i b
  unfold qQ at ee
  dsimp only at ee
  by_cases c:a.length+b.length≤sizeLine
  ·rw [if_pos c] at ee;cases ee
   cases rd with | str h1=>cases re with | str h2=>
   exact oP pins s σ H _ _ v u Q I rx ry ⟨a,b,rfl,rfl,c,k _ _ (.here S (.str (qk h1 h2)))⟩
  ·rw [if_neg c] at ee;cases ee
 | tup xs=>
  cases xs with
  | nil=>cases e <;> cases ee
  | cons x0 xs=>
   cases e <;> first | (cases ee;done) | skip
   rename_i ys
   unfold qQ at ee
   dsimp only at ee
   by_cases c:xs.length+1+ys.length≤sizeLine
   ·rw [if_pos c] at ee;cases ee
    cases rd with | tup h1 l1=>cases re with | tup h2 l2=>
    rename_i a vs b us
    refine uV pins s σ H _ _ v u Q I rx ry ⟨a,b,vs,us,rfl,rfl,h1.sq,h2.sq,?_,?_,fun z=>?_,fun _ p hp=>k _ _ (.tup S (l1.append l2) hp)⟩
    ·intro z;rw [z] at l1;cases l1
    ·rw [l1.length,l2.length];exact c
    ·rw [z] at l2
     cases l2
     rw [List.append_nil] at k
     exact k _ _ (.here S (.tup h1 l1))
   ·rw [if_neg c] at ee;cases ee
 | lv xs=>exact lists (by cases e <;> exact ee)
 | ob n=>exact lists (by cases e <;> exact ee)
 | non=>exact lists (by cases e <;> exact ee)
 | bl b=>exact lists (by cases e <;> exact ee)
 | ty b=>exact lists (by cases e <;> exact ee)
 | ro b=>exact lists (by cases e <;> exact ee)
 | dv b=>exact lists (by cases e <;> exact ee)
theorem fV {p:PyData} (h1:p.canLay0=true) (h2:p.depth≤64):SeqAt.shaped p=true:=by
 unfold PySem.SeqAt.shaped;rw [h1,decide_eq_true h2];rfl
theorem uv {K:PySem.W.Frag} {ρ:Ad} {H:Hp} {v:V} {d:D} (r:Rep K ρ H v d):decide (v=V.non)=isN d:=by
 cases r <;> rfl
theorem oO:OpS X (compareOp .Is) vb:=by
 intro pins s σ H x y v u Q I rx ry hh
 obtain ⟨ρ,h,d,e,z,h',S,rd,re,ee,k⟩:=hh
 cases e <;> first | (cases ee;done) | skip
 cases ee;cases re
 refine xi pins s σ H _ _ v u Q I rx ry ⟨rfl,?_⟩
 rw [uv rd]
 exact k _ _ (.here S (.bl _))
theorem lG {h:Heap} {p:PyData} {f:Value→Bool}:∀{us:List Value} {ds:List PyData} {as:List Addr},ReadsAll h us ds as→(∀u d as,u∈us→Reads h u d as→d∈ds→f u=PyData.eqv d p)→us.any f=ds.any fun b=>PyData.eqv b p
 | _,_,_,.nil,_=>rfl
 | _,_,_,.cons r l,hf=>by
  rw [List.any_cons,List.any_cons,hf _ _ _ List.mem_cons_self r List.mem_cons_self,lG l fun u d as hu hr hd=>hf u d as (List.mem_cons_of_mem _ hu) hr (List.mem_cons_of_mem _ hd)]
open Classical in
noncomputable def eqF (h:Heap) (p:PyData) (u:Value):Bool:=if q:∃d as,Reads h u d as∧d.canLay0=true then PyData.eqv q.choose p else false
theorem tj {h:Heap} {p d:PyData} {u:Value} {as:List Addr} (r:Reads h u d as) (c:d.canLay0=true):eqF h p u=PyData.eqv d p:=by
 have q:∃d as,Reads h u d as∧d.canLay0=true:=⟨d,as,r,c⟩
 unfold eqF
 rw [dif_pos q]
 obtain ⟨as',r',c'⟩:=q.choose_spec
 rw [PySem.SeqAt.Reads.unique _ _ _ _ _ c' r' r]
theorem fe:∀{ds:List PyData} {d:PyData},PyData.canLayAll0 ds=true→d∈ds→d.canLay0=true
 | x::r,d,c,m=>by
  simp only [PyData.canLayAll0,Bool.and_eq_true] at c
  rcases List.mem_cons.mp m with rfl | m
  ·exact c.1
  ·exact fe c.2 m
theorem lj:∀{ds:List PyData} {d:PyData},d∈ds→d.depth≤PyData.depthAll ds
 | x::r,d,m=>by
  simp only [PyData.depthAll]
  rcases List.mem_cons.mp m with rfl | m
  ·omega
  ·have:=lj m;omega
end
end Sm
namespace Sm
open PySem L2 PySem.Spec PyProof.Rows
theorem kG {h:Heap}:∀{us:List Value} {ds:List PyData} {as:List Addr},ReadsAll h us ds as→∀y∈us,∃d as,Reads h y d as∧d∈ds
 | _,_,_,.nil,y,hy=>by cases hy
 | _,_,_,.cons r l,y,hy=>by
  rcases List.mem_cons.mp hy with rfl | hy
  ·exact ⟨_,_,r,List.mem_cons_self⟩
  ·obtain ⟨d,as,a1,a2⟩:=kG l y hy
   exact ⟨d,as,a1,List.mem_cons_of_mem _ a2⟩
section
variable {X:Cx} {pins:List (Addr×Obj)} {σ:L2.St} {H:Hp} {s:Shared} {ρ:Ad} {h:MH} {x y:V} {v u:Value} {d e:D}
theorem in_of (hu:X.A.units+64 < cLine) (I:L2.Inv X pins σ H s) (rx:L2.RelV x v) (ry:L2.RelV y u) (S:Sim X.K ρ h H) (rd:Rep X.K ρ H x d) (re:Rep X.K ρ H y e) {c:Bool} (ee:inD d e h=some c) {Q:Bool→Shared→Prop} (hq:∀s',L2.Inv X pins σ H s'→Q c s'):
  wpAny (model X.prog X.w) X.A (compareOp .In v u) (fun r s'=>∃c,r=.bool c∧Q c s') X.xe s∧wpAny (model X.prog X.w) X.A (compareOp .NotIn v u) (fun r s'=>∃c,r=.bool (!c)∧Q c s') X.xe s:=by
 unfold inD at ee
 cases qd:df e h with
 | some kvs=>
  rw [qd] at ee
  obtain ⟨k,e1,e2⟩:=mpd ee
  obtain ⟨a,us,rfl,ha,l⟩:=gP S re qd
  obtain rfl:u=Value.ref a:=ry
  have ek:=iW rd e1
  subst ek
  have g:kl H a (kV k) (fh us k):=kl.k ha
  have ec:(fh us k).isSome=c:=by
   rw [←e2]
   rcases l.val k with ⟨h1,h2⟩ | ⟨d,v,h1,h2,_⟩
   ·rw [h1,h2];rfl
   ·rw [h1,h2];rfl
  refine ⟨Ah (by omega) I g rx fun s' I'=>⟨c,by rw [ec],hq s' I'⟩,ve (by omega) I g rx fun s' I'=>⟨c,by rw [ec],hq s' I'⟩⟩
 | none=>
  rw [qd] at ee
  dsimp only at ee
  have seqs:((cH e h).bind fun p=>(rdD h d).bind fun a=>(pyL p.1).bind fun bs=>if a.depth≤60∧PyData.depthAll bs≤60 then some (bs.any fun b=>PyData.eqv b a) else none)=some c→
    wpAny (model X.prog X.w) X.A (compareOp .In v u) (fun r s'=>∃c,r=.bool c∧Q c s') X.xe s∧wpAny (model X.prog X.w) X.A (compareOp .NotIn v u) (fun r s'=>∃c,r=.bool (!c)∧Q c s') X.xe s:=by
   intro ee
   obtain ⟨⟨xs,ws⟩,e1,e2⟩:=bnd ee
   obtain ⟨p,e3,e4⟩:=bnd e2
   obtain ⟨bs,e5,e6⟩:=bnd e4
   by_cases w:p.depth≤60∧PyData.depthAll bs≤60
   ·rw [if_pos w] at e6;cases e6
    obtain ⟨a,vs,rfl,hq',l⟩:=iR S re e1
    obtain rfl:u=Value.ref a:=ry
    obtain ⟨r1,c1⟩:=l9 S rd e3
    obtain ⟨r2,c2⟩:=l.rds e5
    obtain ⟨as,ra⟩:=r1.reads I rx
    have key:∀its:List Value,Vals vs its→(∀y,y∈its→PySem.SeqAt.EqAt X.A.in1 s y v (eqF s.heap p y))∧its.any (eqF s.heap p)=bs.any fun b=>PyData.eqv b p:=by
     intro its rv
     obtain ⟨bs',rb⟩:=r2.reads I rv
     refine ⟨fun y hy=>?_,lG rb fun u d as _ hr hd=>tj hr (fe c2 hd)⟩
     obtain ⟨d,as',hr,hd⟩:=kG rb y hy
     rw [tj hr (fe c2 hd)]
     refine PySem.SeqAt.eqAt_reads d p _ s y v as' as hr ra (fe c2 hd) c1 ?_
     have h1:=lj hd
     have h2:min d.depth p.depth≤d.depth:=Nat.min_le_left _ _
     show X.A.units+1+min d.depth p.depth < cLine
     have h3:=w.2
     omega
    rcases hq' with hq' | hq'
    ·obtain ⟨its,rv,pl,_⟩:=I.list hq'
     obtain ⟨k1,k2⟩:=key its rv
     have k1':∀y,y∈its.toArray→PySem.SeqAt.EqAt X.A.in1 s y v (eqF s.heap p y):=fun y hy=>k1 y (by simpa using hy)
     have k2':its.toArray.any (eqF s.heap p)=bs.any fun b=>PyData.eqv b p:=by rw [←k2];simp
     exact ⟨PySem.SeqAt.in_listAt _ pl.isList k1' ⟨_,rfl,by rw [k2'];exact hq s I⟩,PySem.SeqAt.notIn_listAt _ pl.isList k1' ⟨_,rfl,by rw [k2'];exact hq s I⟩⟩
    ·obtain ⟨its,rv,pl,_⟩:=I.tuple hq'
     obtain ⟨k1,k2⟩:=key its rv
     have k1':∀y,y∈its.toArray→PySem.SeqAt.EqAt X.A.in1 s y v (eqF s.heap p y):=fun y hy=>k1 y (by simpa using hy)
     have k2':its.toArray.any (eqF s.heap p)=bs.any fun b=>PyData.eqv b p:=by rw [←k2];simp
     exact ⟨PySem.SeqAt.in_tupleAt _ pl k1' ⟨_,rfl,by rw [k2'];exact hq s I⟩,PySem.SeqAt.notIn_tupleAt _ pl k1' ⟨_,rfl,by rw [k2'];exact hq s I⟩⟩
   ·rw [if_neg w] at e6;cases e6
  by_cases hs:(∃a,d=.str a)∧∃b,e=.str b
  ·obtain ⟨⟨a,rfl⟩,b,rfl⟩:=hs
   cases ee
   cases rd;cases re
   obtain ⟨t,rfl⟩:=rx
   obtain ⟨t',rfl⟩:=ry
   exact ⟨in_str ⟨_,rfl,hq s I⟩,notIn_str ⟨_,rfl,hq s I⟩⟩
  ·refine seqs ?_
   cases d <;> first | exact ee | skip
   cases e <;> first | exact ee | skip
   exact absurd ⟨⟨_,rfl⟩,_,rfl⟩ hs
theorem sF (hu:X.A.units+64 < cLine):OpS X (compareOp .NotIn) mK:=by
 intro pins s σ H x y v u Q I rx ry hh
 obtain ⟨ρ,h,d,e,z,h',S,rd,re,ee,k⟩:=hh
 obtain ⟨c,e1,e2⟩:=mpd ee
 cases e2
 refine thn (in_of hu I rx ry S rd re e1 (Q:=fun c' s'=>c'=c∧L2.Inv X pins σ H s') fun s' I'=>⟨rfl,I'⟩).2 fun r s' ⟨c',hr,hc,I'⟩=>?_
 subst hr;subst hc
 exact ⟨.bl _,H,I',rfl,k _ _ (.here S (.bl _))⟩
end
end Sm
namespace Sm
open PySem L2 PySem.Spec PyProof.Rows
theorem vm {K:PySem.W.Frag} {ρ:Ad} {H:Hp} {vs:List V} {ds:List D} {i:Int} {d:D} (l:RepL K ρ H vs ds) (e:atI ds i=some d):∃v,atI vs i=some v∧Rep K ρ H v d:=by
 unfold atI at e
 obtain ⟨j,e1,e2⟩:=bnd e
 obtain ⟨v,e3,r⟩:=l.got e2
 exact ⟨v,by unfold atI;rw [l.length,e1];exact e3,r⟩
section
variable {X:Cx}
theorem yZ (hu:X.A.units+64 < cLine):IxR X (rS X.K fIx):=by
 intro value slice pins s σ H x y v u Q I rx ry hh hs
 obtain ⟨ρ,h,d,e,z,h',S,rd,re,ee,k⟩:=hh
 unfold fIx at ee
 cases qd:df d h with
 | some kvs=>
  rw [qd] at ee
  obtain ⟨ky,e1,e2⟩:=bnd ee
  obtain ⟨z',e3,e4⟩:=mpd e2
  cases e4
  obtain ⟨a,us,rfl,ha,l⟩:=gP S rd qd
  obtain rfl:v=Value.ref a:=rx
  have ek:=iW re e1
  subst ek
  rcases l.val ky with ⟨h1,h2⟩ | ⟨d',w,h1,h2,r⟩
  ·rw [h1] at e3;cases e3
  ·rw [h1] at e3;cases e3
   have g:kl H a (kV ky) (some w):=by rw [←h2];exact kl.k ha
   exact tail_any (om I g) PySem.F.slot_dict_getitem.lookup (qU (by omega) I g ry fun w' s3 I3 rw'=>⟨w,H,I3,rw',k _ _ (.here S r)⟩) hs
 | none=>
  rw [qd] at ee
  dsimp only at ee
  cases e <;> first | (cases d <;> (cases ee;done)) | skip
  rename_i i
  have seqs:((cH d h).bind fun p=>(atI p.1 i).map fun z=>(z,h))=some (z,h')→wpAny (model X.prog X.w) X.A (subscriptTail value slice v u) (EP X pins σ Q) X.xe s:=by
   intro ee
   obtain ⟨⟨xs,ws⟩,e1,e2⟩:=bnd ee
   obtain ⟨z',e3,e4⟩:=mpd e2
   cases e4
   obtain ⟨a,vs,rfl,hq',l⟩:=iR S rd e1
   obtain ⟨w,e5,r⟩:=vm l e3
   cases re
   rcases hq' with hq' | hq'
   ·exact u3 value slice pins s σ H _ _ v u Q I rx ry ⟨a,vs,i,w,rfl,rfl,hq',e5,k _ _ (.here S r)⟩ hs
   ·exact xx value slice pins s σ H _ _ v u Q I rx ry ⟨a,vs,i,w,rfl,rfl,hq',e5,k _ _ (.here S r)⟩ hs
  cases d with
  | str x0=>
   dsimp only at ee
   by_cases c:x0.length≤sizeLine
   ·rw [if_pos c] at ee
    obtain ⟨ch,e3,e4⟩:=mpd ee
    cases e4
    cases rd with | str hs0=>
    cases re
    exact xy value slice pins s σ H _ _ v u Q I rx ry ⟨x0,i,ch,rfl,rfl,c,e3,k _ _ (.here S (.str (qj hs0 e3)))⟩ hs
   ·rw [if_neg c] at ee;cases ee
  | _=>exact seqs ee
theorem ar {a b:Expr} {pos:Pos} {ma mb:EM} (hu:X.A.units+64 < cLine) (ha:SE X a ma) (hb:SE X b mb) (hs:ny b:=by unfold ny;intro _ _;kernel_rfl):SE X (.Subscript a b pos) (eOp fIx ma mb):=(yQ (yZ hu) ha hb hs).imp fun _ _ _=>pN
abbrev PM:=DS→MH→Option (Option Int×MH)
def pNo:PM:=fun _ h=>some (none,h)
def pAt (e:EM):PM:=fun δ h=>(e δ h).bind fun p=>match p.1 with
 | .int i=>some (some i,p.2)
 | _=>none
inductive TMOi (K:PySem.W.Frag) (m:PM) (σ:L2.St) (H:Hp) (Q:Option Int→Hp→Prop):Prop where
 | mk (ρ δ h b h'):RepS K ρ H σ δ→Sim K ρ h H→(m δ h=some (b,h'))→(∀ρ' H',Stp ρ H ρ' H'→Sim K ρ' h' H'→Q b H')→TMOi K m σ H Q
def tMO (K:PySem.W.Frag) (m:PM):TO:=fun σ H Q=>TMOi K m σ H Q
def SP' (X:Cx) (e:Option Expr) (m:PM):Prop:=PO X e (tMO X.K m)
theorem fS:SP' X none pNo:=fun pins s σ H Q I hh=>by
 obtain ⟨ρ,δ,h,b,h',R,S,e,k⟩:=hh
 cases e
 exact uK pins s σ H Q I (k ρ H (.refl _ _) S)
theorem fR {e:Expr} {ma:EM} (he:SE X e ma):SP' X (some e) (pAt ma):=fun pins s σ H Q I hh=>by
 obtain ⟨ρ,δ,h,b,h',R,S,e,k⟩:=hh
 obtain ⟨⟨x,h1⟩,e1,e2⟩:=bnd e
 cases x <;> first | (cases e2;done) | skip
 cases e2
 refine uJ he pins s σ H Q I ⟨ρ,δ,h,_,_,R,S,e1,fun v H' ⟨ρ',T,S',r⟩=>?_⟩
 cases r
 exact ⟨_,rfl,k ρ' H' T S'⟩
def cutD (xs:List D) (lo hi:Option Int):List D:=(xs.drop (HT.sIx xs.length 0 lo)).take (HT.sIx xs.length xs.length hi-HT.sIx xs.length 0 lo)
def fSl (d:D) (lo hi:Option Int) (h:MH):Option (D×MH):=match d with
 | .str z=>if z.length≤sizeLine then some (.str (Txt.slice z lo hi),h) else none
 | .tup xs=>if HT.sIx xs.length 0 lo=0∧HT.sIx xs.length xs.length hi=xs.length then none else some (.tup (cutD xs lo hi),h)
 | d=>(cH d h).map fun p=>(.lv (cutD p.1 lo hi),h)
def eSl (a:EM) (l u:PM):EM:=fun δ h=>(a δ h).bind fun p=>(l δ p.2).bind fun q=>(u δ q.2).bind fun r=>fSl p.1 q.1 r.1 r.2
inductive RSLi (K:PySem.W.Frag) (x:V) (lo hi:Option Int) (H:Hp) (Q:VK):Prop where
 | mk (ρ h d z h'):Sim K ρ h H→Rep K ρ H x d→(fSl d lo hi h=some (z,h'))→(∀v H',c9 K ρ H h' z v H'→Q v H')→RSLi K x lo hi H Q
def rSl (K:PySem.W.Frag):V→Option Int→Option Int→Hp→VK→Prop:=fun x lo hi H Q=>RSLi K x lo hi H Q
theorem RepL.jF {K:PySem.W.Frag} {ρ:Ad} {H:Hp} {vs:List V} {ds:List D} (l:RepL K ρ H vs ds) (lo hi:Option Int):RepL K ρ H (L2.jF vs lo hi) (cutD ds lo hi):=by
 unfold L2.jF cutD
 rw [l.length]
 exact (l.drop _).take _
theorem vt:SlR X (rSl X.K):=by
 intro pins s σ H x v vl vu lo hi sl Q I rx hs pl pu hh
 obtain ⟨ρ,h,d,z,h',S,rd,ee,k⟩:=hh
 have lists:iN d=true→((cH d h).map fun p=>(D.lv (cutD p.1 lo hi),h))=some (z,h')→∃T id,typeLookup (.type T) "__getitem__"=pure (some (.builtin id))∧s.TypeIs v T∧wpAny (model X.prog X.w) X.A (getItem v (.ref sl)) (EP X pins σ Q) X.xe s:=by
  intro nt e2
  obtain ⟨⟨xs,ws⟩,e1,e2⟩:=mpd e2
  cases e2
  obtain ⟨a,rfl,⟨vs,q,l⟩,_⟩:=fu S rd e1
  rw [nt] at q
  cases q with
  | l q=>exact uf pins s σ H _ v vl vu lo hi sl Q I rx hs pl pu ⟨a,vs,rfl,q,fun p hp=>k _ _ (.lv S (l.jF lo hi) hp)⟩
 cases d with
 | str x0=>
  unfold fSl at ee
  dsimp only at ee
  by_cases c:x0.length≤sizeLine
  ·rw [if_pos c] at ee;cases ee
   cases rd with | str hs0=>
   exact vN pins s σ H _ v vl vu lo hi sl Q I rx hs pl pu ⟨x0,rfl,c,k _ _ (.here S (.str (nC _ _ hs0)))⟩
  ·rw [if_neg c] at ee;cases ee
 | tup xs=>
  unfold fSl at ee
  dsimp only at ee
  by_cases c:HT.sIx xs.length 0 lo=0∧HT.sIx xs.length xs.length hi=xs.length
  ·rw [if_pos c] at ee;cases ee
  ·rw [if_neg c] at ee;cases ee
   cases rd with | tup h0 l0=>
   exact vM pins s σ H _ v vl vu lo hi sl Q I rx hs pl pu ⟨_,_,rfl,h0.sq,by rw [l0.length];exact c,fun p hp=>k _ _ (.tup S (l0.jF lo hi) hp)⟩
 | _=>exact lists rfl ee
theorem ay {x:Str} {id:String} {p pos:Pos} {e:Expr} {es:List Expr} {f:Fn} {m:AM} (hc:fg X (.builtin id) f) (hg:Gl X x) (hm:X.mg x=none) (hv:bootBuiltins x=some (.builtin id)) (ha:SA X (e::es) m) (hn:x≠"__name__":=by decide) (hdb:(x==("__debug__":Str))=false:=by kernel_rfl)
  (he:starEach (e::es) X.env=(false,eval e X.env)::starEach es X.env:=by kernel_rfl) (hpl:(backTo pos (starEach es X.env)).any (·.1)=false:=by kernel_rfl):SE X (.Call (.Name x p) (e::es) [] pos) (eFn f m):=
 (sA hc hg hm hv ha hn hdb he hpl).imp fun σ H Q ⟨ρ,δ,h,d,h',R,S,e,k⟩=>by
  obtain ⟨⟨ds,h1⟩,e1,e2⟩:=bnd e
  exact ⟨ρ,δ,h,ds,h1,R,S,e1,fun vs ρ1 H1 T1 S1 r1=>⟨ρ1,h1,ds,d,h',S1,r1,e2,fun v H' P=>k v H' (P.step T1)⟩⟩
theorem bV {x:Str} {id:String} {p pos:Pos} {e:Expr} {es:List Expr} {f:Fn} {m:AM} (hc:fg X (.type id) f) (hg:Gl X x) (hm:X.mg x=none) (hv:bootBuiltins x=some (.type id)) (ha:SA X (e::es) m) (hn:x≠"__name__":=by decide) (hdb:(x==("__debug__":Str))=false:=by kernel_rfl)
  (he:starEach (e::es) X.env=(false,eval e X.env)::starEach es X.env:=by kernel_rfl) (hpl:(backTo pos (starEach es X.env)).any (·.1)=false:=by kernel_rfl):SE X (.Call (.Name x p) (e::es) [] pos) (eFn f m):=
 (kK hc hg hm hv ha hn hdb he hpl).imp fun σ H Q ⟨ρ,δ,h,d,h',R,S,e,k⟩=>by
  obtain ⟨⟨ds,h1⟩,e1,e2⟩:=bnd e
  exact ⟨ρ,δ,h,ds,h1,R,S,e1,fun vs ρ1 H1 T1 S1 r1=>⟨ρ1,h1,ds,d,h',S1,r1,e2,fun v H' P=>k v H' (P.step T1)⟩⟩
def dB:Fn:=fun ds h=>match ds with
 | [.str z]=>if z.length≤sizeLine then some (.int z.length,h) else none
 | [d]=>match df d h with
  | some kvs=>some (.int kvs.length,h)
  | none=>(cH d h).map fun p=>(.int p.1.length,h)
 | _=>none
def xJ:Fn:=fun ds h=>match ds with
 | [.int i]=>some (.int (if i < 0 then -i else i),h)
 | _=>none
def tyD (d:D) (h:MH):Option String:=match d with
 | .non=>some "NoneType"
 | .bl _=>some "bool"
 | .int _=>some "int"
 | .str _=>some "str"
 | .tup _=>some "tuple"
 | .lv _=>some "list"
 | .dv _=>some "dict"
 | .ob n=>match h[n]? with
  | some (.lst _)=>some "list"
  | some (.dct _)=>some "dict"
  | none=>none
 | _=>none
def rC (t n:String):Bool:=t==n||(t=="bool"&&n=="int")
def kh:Fn:=fun ds h=>match ds with
 | [d,.ty n]=>if n∈["int","str","bool","tuple","list","dict"] then (tyD d h).map fun t=>(.bl (rC t n),h) else none
 | _=>none
def cO:Fn:=fun ds h=>match ds with
 | [d]=>(cH d h).map fun p=>(.tup p.1,h)
 | _=>none
def q4:List D→Option (List Bool)
 | []=>some []
 | .bl b::r=>(q4 r).map fun bs=>b::bs
 | _=>none
def xI:Fn:=fun ds h=>match ds with
 | [d]=>(eB d h).bind fun xs=>(q4 xs).map fun bs=>(.bl (bs.all id),h)
 | _=>none
theorem rep1 {K:PySem.W.Frag} {ρ:Ad} {H:Hp} {vs:List V} {d:D} (l:RepL K ρ H vs [d]):∃v,vs=[v]∧Rep K ρ H v d:=by
 cases l with
 | cons r l=>cases l;exact ⟨_,rfl,r⟩
theorem rep2 {K:PySem.W.Frag} {ρ:Ad} {H:Hp} {vs:List V} {d e:D} (l:RepL K ρ H vs [d,e]):∃v u,vs=[v,u]∧Rep K ρ H v d∧Rep K ρ H u e:=by
 cases l with
 | cons r l=>cases l with
  | cons r' l=>cases l;exact ⟨_,_,rfl,r,r'⟩
theorem cP:fg X (.builtin "len") dB:=by
 intro pins s σ H xs us Q I r hh
 obtain ⟨ρ,h,ds,z,h',S,l,ee,k⟩:=hh
 match ds,l,ee with
 | [],_,ee=>cases ee
 | _::_::_,_,ee=>exact absurd ee (by unfold dB;split <;> simp_all)
 | [d],l,ee=>
  obtain ⟨v,rfl,rd⟩:=rep1 l
  have oth:(match df d h with | some kvs=>some (D.int kvs.length,h) | none=>(cH d h).map fun p=>(D.int p.1.length,h))=some (z,h')→wpAny (model X.prog X.w) X.A (call (.builtin "len") us) (EP X pins σ Q) X.xe s:=by
   intro ee
   cases q:df d h with
   | some kvs=>
    rw [q] at ee;cases ee
    obtain ⟨a,ws,rfl,ha,lk⟩:=gP S rd q
    refine qZ pins s σ H _ us Q I r ⟨a,ws,rfl,ha,k _ _ ?_⟩
    rw [lk.length]
    exact .here S (.int _)
   | none=>
    rw [q] at ee
    obtain ⟨⟨ys,w⟩,e1,e2⟩:=mpd ee
    cases e2
    obtain ⟨a,vs,rfl,hq,l2⟩:=iR S rd e1
    refine mZ pins s σ H _ us Q I r ⟨a,vs,rfl,hq,k _ _ ?_⟩
    rw [l2.length]
    exact .here S (.int _)
  cases d with
  | str x0=>
   unfold dB at ee
   dsimp only at ee
   by_cases c:x0.length≤sizeLine
   ·rw [if_pos c] at ee;cases ee
    cases rd
    exact mY pins s σ H _ us Q I r ⟨x0,rfl,c,k _ _ (.here S (.int _))⟩
   ·rw [if_neg c] at ee;cases ee
  | _=>exact oth ee
theorem tH:fg X (.builtin "abs") xJ:=by
 intro pins s σ H xs us Q I r hh
 obtain ⟨ρ,h,ds,z,h',S,l,ee,k⟩:=hh
 match ds,l,ee with
 | [],_,ee=>cases ee
 | d::_::_,_,ee=>cases d <;> cases ee
 | [d],l,ee=>
  obtain ⟨v,rfl,rd⟩:=rep1 l
  cases rd <;> first | (cases ee;done) | skip
  cases ee
  exact tT pins s σ H _ us Q I r ⟨_,rfl,k _ _ (.here S (.int _))⟩
theorem cM:fg X (.type "tuple") cO:=by
 intro pins s σ H xs us Q I r hh
 obtain ⟨ρ,h,ds,z,h',S,l,ee,k⟩:=hh
 match ds,l,ee with
 | [],_,ee=>cases ee
 | _::_::_,_,ee=>cases ee
 | [d],l,ee=>
  obtain ⟨v,rfl,rd⟩:=rep1 l
  obtain ⟨⟨ys,w⟩,e1,e2⟩:=mpd ee
  cases e2
  obtain ⟨a,rfl,⟨vs,q,l2⟩,_⟩:=fu S rd e1
  refine kj pins s σ H _ us Q I r ⟨a,vs,rfl,?_⟩
  generalize hb:iN d=b at q
  cases q with
  | l q=>exact .inl ⟨q,fun p hp=>k _ _ (.tup S l2 hp)⟩
  | t q=>
   refine .inr ⟨q,k _ _ ?_⟩
   cases rd <;> first | (cases hb;done) | skip
   cases e1
   exact .here S (.tup ‹_› ‹_›)
theorem tW {K:PySem.W.Frag} {ρ:Ad} {H:Hp}:∀{vs:List V} {xs:List D} {bs:List Bool},RepL K ρ H vs xs→q4 xs=some bs→vs=bs.map V.bl
 | _,_,_,.nil,e=>by cases e;rfl
 | _,_,_,.cons r l,e=>by
  cases r <;> first | (cases e;done) | skip
  obtain ⟨bs',e1,e2⟩:=mpd e
  cases e2
  rw [tW l e1];rfl
theorem xN (hc:X.calm=true):fg X (.builtin "all") xI:=by
 intro pins s σ H xs us Q I r hh
 obtain ⟨ρ,h,ds,z,h',S,l,ee,k⟩:=hh
 match ds,l,ee with
 | [],_,ee=>cases ee
 | _::_::_,_,ee=>cases ee
 | [d],l,ee=>
  obtain ⟨v,rfl,rd⟩:=rep1 l
  obtain ⟨ys,e1,e2⟩:=bnd ee
  obtain ⟨bs,e3,e4⟩:=mpd e2
  cases e4
  obtain ⟨a,vs,rfl,ha,l2⟩:=dy S rd e1
  rw [tW l2 e3] at ha
  exact tS hc pins s σ H _ us Q I r ⟨a,bs,rfl,SqL.of ha,k _ _ (.here S (.bl _))⟩
end
end Sm
namespace Sm
open PySem L2 PySem.Spec PyProof.Rows
section
variable {X:Cx}
theorem pV {K:PySem.W.Frag} {t n:String} (ht:t∈["NoneType","bool","int","str","tuple","list","dict"]) (hn:n∈["int","str","bool","tuple","list","dict"]):PySem.W.kitOne K (.type t) (.type n)=some (rC t n):=by
 simp only [List.mem_cons,List.mem_nil_iff,or_false] at ht hn
 rcases ht with rfl | rfl | rfl | rfl | rfl | rfl | rfl <;> rcases hn with rfl | rfl | rfl | rfl | rfl | rfl <;> rfl
theorem fM:fg X (.builtin "isinstance") kh:=by
 intro pins s σ H xs us Q I r hh
 obtain ⟨ρ,h,ds,z,h',S,l,ee,k⟩:=hh
 match ds,l,ee with
 | [],_,ee=>cases ee
 | [_],_,ee=>cases ee
 | _::d::_::_,_,ee=>cases d <;> cases ee
 | [d,c],l,ee=>
  cases c <;> first | (cases ee;done) | skip
  rename_i n
  unfold kh at ee
  dsimp only at ee
  by_cases hn:n∈["int","str","bool","tuple","list","dict"]
  ·rw [if_pos hn] at ee
   obtain ⟨t,e1,e2⟩:=mpd ee
   cases e2
   obtain ⟨v,u,rfl,rd,ru⟩:=rep2 l
   cases ru
   have fin:=k (.bl (rC t n)) H (.here S (.bl _))
   have go:∀ty,TyOf X.K H v (.type ty)→t=ty→ty∈["NoneType","bool","int","str","tuple","list","dict"]→wpAny (model X.prog X.w) X.A (call (.builtin "isinstance") us) (EP X pins σ Q) X.xe s:=fun ty hty e hm=>by
    subst e
    exact tR pins s σ H _ us Q I r ⟨v,n,_,_,rfl,hty,pV hm hn,fin⟩
   cases rd with
   | non=>cases e1;exact go _ .non rfl (by decide)
   | bl b=>cases e1;exact go _ (.bl b) rfl (by decide)
   | int i=>cases e1;exact go _ (.int i) rfl (by decide)
   | str h0=>cases e1;exact go _ (.str _) rfl (by decide)
   | ty _=>cases e1
   | ro _ _=>cases e1
   | lv h0 _ _=>cases e1;exact go _ (.lst h0) rfl (by decide)
   | dv h0 _ _=>cases e1;exact go _ (.dK h0) rfl (by decide)
   | @ob a m hm=>
    unfold tyD at e1
    dsimp only at e1
    cases q:h[m]? with
    | none=>rw [q] at e1;cases e1
    | some o=>
     rw [q] at e1
     have x:=S.at_ m a o hm q
     cases o with
     | lst _=>cases e1;obtain ⟨vs,e3,_⟩:=x;exact go _ (.lst e3) rfl (by decide)
     | dct _=>cases e1;obtain ⟨vs,e3,_⟩:=x;exact go _ (.dK e3) rfl (by decide)
   | @tup a vs ds h0 l0=>
    cases e1
    obtain ⟨u1,u2,rfl,r1,r2⟩:=Vals.two r
    obtain rfl:u1=Value.ref a:=r1
    obtain rfl:u2=Value.type n:=r2
    obtain ⟨its,_,⟨o,h1,h2,_⟩,_⟩:=I.tuple h0.sq
    exact PySem.W.kia_one PySem.W.kitx_tuple I.kIn ⟨o,h1,h2⟩ (pV (t:="tuple") (by decide) hn) (fun z=>nomatch z) fun tk=>⟨.bl _,H,I.tok tk,rfl,fin⟩
  ·rw [if_neg hn] at ee;cases ee
def lH (m:AM):AM:=fun δ h=>(m δ h).bind fun p=>match p.1 with
 | [d]=>(cH d p.2).map fun q=>(q.1,p.2)
 | _=>none
theorem lP {x:Str} {p pos:Pos} {e:Expr} {m:AM} (hg:Gl X x) (hm:X.mg x=none) (hv:bootBuiltins x=some (.type "list")) (ha:SA X [e] m) (hl:iw m 1) (hn:x≠"__name__":=by decide) (hdb:(x==("__debug__":Str))=false:=by kernel_rfl)
  (he:starEach [e] X.env=(false,eval e X.env)::starEach [] X.env:=by kernel_rfl) (hpl:(backTo pos (starEach [] X.env)).any (·.1)=false:=by kernel_rfl):SFL X (.Call (.Name x p) [e] [] pos) (lH m):=
 (kK mX hg hm hv ha hn hdb he hpl).imp fun σ H Q ⟨ρ,δ,h,d,h',R,S,e,k⟩=>by
  obtain ⟨⟨ds,h1⟩,e1,e2⟩:=bnd e
  refine ⟨ρ,δ,h,ds,h1,R,S,e1,fun vs ρ1 H1 T1 S1 r1=>?_⟩
  match ds,hl _ _ _ _ e1,e2,r1 with
  | [d],_,e2,r1=>
   obtain ⟨⟨ys,w⟩,e3,e4⟩:=mpd e2
   cases e4
   obtain ⟨v,rfl,rd⟩:=rep1 r1
   obtain ⟨a,ws,rfl,hq,l2⟩:=iR S1 rd e3
   exact ⟨a,ws,rfl,hq,fun l hl=>k ρ1 H1 l ws T1 S1 hl l2⟩
def kg (o i v:D) (h:MH):Option MH:=match o with
 | .ob n=>match h[n]? with
  | some (.lst xs)=>match i with
   | .int j=>(ixN xs.length j).map fun p=>h.set n (.lst (xs.set p v))
   | _=>none
  | some (.dct kvs)=>(qI i).bind fun k=>if kvs.length < sizeLine then some (h.set n (.dct (putD kvs k v))) else none
  | none=>none
 | _=>none
def ke (o i:EM):GM:=fun v δ h=>(o δ h).bind fun p=>(i δ p.2).bind fun q=>(kg p.1 q.1 v q.2).map fun h'=>(δ,h')
inductive RSETi (K:PySem.W.Frag) (o i v:V) (H:Hp) (Q:Hp→Prop):Prop where
 | mk (ρ h a b c h'):Sim K ρ h H→Rep K ρ H o a→Rep K ρ H i b→Rep K ρ H v c→(kg a b c h=some h')→(∀ρ' H',Stp ρ H ρ' H'→Sim K ρ' h' H'→Q H')→RSETi K o i v H Q
def zM (K:PySem.W.Frag):V→V→V→Hp→(Hp→Prop)→Prop:=fun o i v H Q=>RSETi K o i v H Q
theorem uG (hu:X.A.units+64 < cLine):xY X (zM X.K):=by
 intro pins s σ H o i v ov iv u Q I ro ri rv hh
 obtain ⟨ρ,h,a,b,c,h',S,ra,rb,rc,ee,k⟩:=hh
 cases ra <;> first | (cases ee;done) | skip
 rename_i a n hn
 unfold kg at ee
 dsimp only at ee
 cases q:h[n]? with
 | none=>rw [q] at ee;cases ee
 | some w=>
  rw [q] at ee
  have x:=S.at_ n a w hn q
  have ma:=List.mem_of_getElem? hn
  cases w with
  | lst xs=>
   dsimp only at ee
   cases rb <;> first | (cases ee;done) | skip
   rename_i j
   obtain ⟨p,e1,e2⟩:=mpd ee
   cases e2
   obtain ⟨vs,e3,l⟩:=x
   have T:Stp ρ H ρ (upd H a (.lst (vs.set p v))):=Stp.wrote S ma
   exact set_list pins s σ H _ _ v ov iv u Q I ro ri rv ⟨a,vs,j,p,rfl,rfl,e3,by rw [l.length];exact e1,k ρ _ T (S.wrote hn ⟨_,aS,(l.set rc p).mono T.toCh⟩)⟩
  | dct kvs=>
   dsimp only at ee
   obtain ⟨ky,e1,e2⟩:=bnd ee
   by_cases z:kvs.length < sizeLine
   ·rw [if_pos z] at e2;cases e2
    obtain ⟨us,e3,l⟩:=x
    have ek:=iW rb e1
    subst ek
    obtain rfl:ov=Value.ref a:=ro
    have T:Stp ρ H ρ (upd H a (.dK (putK us ky v))):=Stp.wrote S ma
    exact qT (by omega) I (vq.k e3 (by rw [l.length];exact z)) ri rv fun s' I'=>⟨_,I',k ρ _ T (S.wrote hn ⟨_,aS,(l.put rc).mono T.toCh⟩)⟩
   ·rw [if_neg z] at e2;cases e2
theorem gZ {o i:Expr} {pos:Pos} {mo mi:EM} (hu:X.A.units+64 < cLine) (ho:SE X o mo) (hi:SE X i mi)
  (ha:∀v,assign (.Subscript o i pos) X.env v=(do
   let ov←holding [v] (eval o X.env)
   let iv←holding [v,ov] (eval i X.env)
   standAt pos
   holding [v,ov,iv] (setItem ov iv v)
   release [v,ov,iv] []):=by intro _;kernel_rfl):SG X (.Subscript o i pos) (ke mo mi):=
 (wL ho hi (uG hu) ha).imp fun v σ H Q ⟨ρ,δ,h,d,δ',h',R,S,r,e,k⟩=>by
  obtain ⟨⟨x,h1⟩,e1,e2⟩:=bnd e
  obtain ⟨⟨y,h2⟩,e3,e4⟩:=bnd e2
  obtain ⟨h3,e5,e6⟩:=mpd e4
  cases e6
  exact ⟨ρ,δ,h,x,h1,R,S,e1,fun ov H1 ⟨ρ1,T1,S1,r1⟩=>⟨ρ1,δ,h1,y,h2,R.mono T1,S1,e3,fun iv H2 ⟨ρ2,T2,S2,r2⟩=>
   ⟨ρ2,h2,x,y,d,_,S2,r1.mono T2,r2,r.mono (T1.trans T2).toCh,e5,fun ρ3 H3 T3 S3=>k ρ3 H3 σ (T1.trans (T2.trans T3)) S3 (R.mono (T1.trans (T2.trans T3)).toCh)⟩⟩⟩
abbrev MFn:=D→List D→MH→Option (D×MH)
inductive RMi (K:PySem.W.Frag) (f:MFn) (x:V) (vs:List V) (H:Hp) (Q:VK):Prop where
 | mk (ρ h d ds z h'):Sim K ρ h H→Rep K ρ H x d→RepL K ρ H vs ds→(f d ds h=some (z,h'))→(∀v H',c9 K ρ H h' z v H'→Q v H')→RMi K f x vs H Q
def rM (K:PySem.W.Frag) (f:MFn):V→List V→Hp→VK→Prop:=fun x vs H Q=>RMi K f x vs H Q
def eM (isT:D→MH→Bool) (f:MFn) (o:EM) (m:AM):EM:=fun δ h=>(o δ h).bind fun p=>if isT p.1 p.2 then (m δ p.2).bind fun q=>f p.1 q.1 q.2 else none
def cb (d:D) (h:MH):Bool:=(eB d h).isSome
def c6:MFn:=fun d ds h=>match d,ds with
 | .ob n,[y]=>match h[n]? with
  | some (.lst xs)=>if xs.length < sizeLine then some (.non,h.set n (.lst (xs++[y]))) else none
  | _=>none
 | _,_=>none
def eg:MFn:=fun d ds h=>match d,ds with
 | .ob n,[y]=>match h[n]? with
  | some (.lst xs)=>(eB y h).bind fun zs=>if xs.length+zs.length≤sizeLine then some (.non,h.set n (.lst (xs++zs))) else none
  | _=>none
 | _,_=>none
def qB:MFn:=fun d ds h=>match d,ds with
 | .ob n,[]=>match h[n]? with
  | some (.lst xs)=>(xs[xs.length-1]?).map fun y=>(y,h.set n (.lst xs.dropLast))
  | _=>none
 | _,_=>none
theorem en {K:PySem.W.Frag} {ρ:Ad} {H:Hp} {h:MH} {v:V} {d:D} (S:Sim K ρ h H) (r:Rep K ρ H v d) (e:cb d h=true):tyV K "list" v H:=by
 obtain ⟨xs,e1⟩:=Option.isSome_iff_exists.mp e
 obtain ⟨a,vs,rfl,ha,_⟩:=dy S r e1
 exact .inl ⟨rfl,vs,SqL.of ha⟩
theorem lS {T id:String} {name:Str} {o e:Expr} {es:List Expr} {apos cpos:Pos} {f:MFn} {mo:EM} {m:AM} {isT:D→MH→Bool} (hT:∀{K:PySem.W.Frag} {ρ:Ad} {H:Hp} {h:MH} {v:V} {d:D},Sim K ρ h H→Rep K ρ H v d→isT d h=true→tyV K T v H)
  (pa:PlainAttrs T) (slot:Slot T name id) (hty:typeOf (.builtin id)=pure (.type "method_descriptor")) (hm:MtR X id (rM X.K f)) (ho:SE X o mo) (ha:SA X (e::es) m)
  (hbase:attributeBase o name X.env (eval o X.env)=eval o X.env:=by kernel_rfl)
  (hfew:((backTo cpos (starEach (e::es) X.env)).all (fun x=>!x.1)&&(backToKw cpos (keywordEach [] X.env)).all (fun x=>x.1.isSome)
   &&decide ((e::es).length+([]:List Keyword).length+(if ([]:List Keyword).isEmpty then 0 else 1) < 30))=true:=by kernel_rfl)
  (hline:(apos.endLine==cpos.line)=true:=by kernel_rfl) (hs:starEach (e::es) X.env=(false,eval e X.env)::starEach es X.env:=by kernel_rfl) (hplain:(backTo cpos (starEach es X.env)).any (·.1)=false:=by kernel_rfl):
  SE X (.Call (.Attribute o name apos) (e::es) [] cpos) (eM isT f mo m):=(yR pa slot hty hm ho ha hbase hfew hline hs hplain).imp fun σ H Q ⟨ρ,δ,h,d,h',R,S,e,k⟩=>by
 obtain ⟨⟨x,h1⟩,e1,e2⟩:=bnd e
 dsimp only at e2
 by_cases c:isT x h1=true
 ·rw [if_pos c] at e2
  obtain ⟨⟨ds,h2⟩,e3,e4⟩:=bnd e2
  exact ⟨ρ,δ,h,x,h1,R,S,e1,fun v H1 ⟨ρ1,T1,S1,r1⟩=>⟨hT S1 r1 c,ρ1,δ,h1,ds,h2,R.mono T1,S1,e3,fun vs ρ2 H2 T2 S2 r2=>⟨ρ2,h2,x,ds,d,h',S2,r1.mono T2,r2,e4,fun w H3 p=>k w H3 (p.step (T1.trans T2))⟩⟩⟩
 ·rw [if_neg c] at e2;cases e2
theorem yt {T id:String} {name:Str} {o:Expr} {apos cpos:Pos} {f:MFn} {mo:EM} {isT:D→MH→Bool} (hT:∀{K:PySem.W.Frag} {ρ:Ad} {H:Hp} {h:MH} {v:V} {d:D},Sim K ρ h H→Rep K ρ H v d→isT d h=true→tyV K T v H)
  (pa:PlainAttrs T) (slot:Slot T name id) (hty:typeOf (.builtin id)=pure (.type "method_descriptor")) (hm:MtR X id (rM X.K f)) (ho:SE X o mo)
  (hbase:attributeBase o name X.env (eval o X.env)=eval o X.env:=by kernel_rfl) (hline:(apos.endLine==cpos.line)=true:=by kernel_rfl):
  SE X (.Call (.Attribute o name apos) [] [] cpos) (eM isT f mo aj):=(wY pa slot hty hm ho hbase hline).imp fun σ H Q ⟨ρ,δ,h,d,h',R,S,e,k⟩=>by
 obtain ⟨⟨x,h1⟩,e1,e2⟩:=bnd e
 dsimp only at e2
 by_cases c:isT x h1=true
 ·rw [if_pos c] at e2
  exact ⟨ρ,δ,h,x,h1,R,S,e1,fun v H1 ⟨ρ1,T1,S1,r1⟩=>⟨hT S1 r1 c,ρ1,h1,x,[],d,h',S1,r1,.nil,e2,fun w H3 p=>k w H3 (p.step T1)⟩⟩
 ·rw [if_neg c] at e2;cases e2
theorem oU {K:PySem.W.Frag} {ρ:Ad} {H:Hp} {h:MH} {n:Nat} {xs:List D} {v:V} (S:Sim K ρ h H) (r:Rep K ρ H v (.ob n)) (q:h[n]?=some (.lst xs)):∃a vs,v=.ref a∧ρ.ob[n]?=some a∧H a=some (.lst vs)∧RepL K ρ H vs xs:=by
 cases r with
 | ob hn=>obtain ⟨vs,e,l⟩:=S.at_ n _ _ hn q;exact ⟨_,vs,rfl,hn,e,l⟩
theorem dP:MtR X "list.append" (rM X.K c6):=by
 intro pins s σ H x xs v us Q I rx rs hh
 obtain ⟨ρ,h,d,ds,z,h',S,rd,l,ee,k⟩:=hh
 cases d <;> first | (cases ee;done) | skip
 rename_i n
 match ds,l,ee with
 | [],_,ee=>cases ee
 | _::_::_,_,ee=>cases ee
 | [y],l,ee=>
  unfold c6 at ee
  dsimp only at ee
  cases q:h[n]? with
  | none=>rw [q] at ee;cases ee
  | some w=>
   rw [q] at ee
   cases w with
   | dct _=>cases ee
   | lst ys=>
    dsimp only at ee
    by_cases c:ys.length < sizeLine
    ·rw [if_pos c] at ee;cases ee
     obtain ⟨a,vs,rfl,hn,e1,l1⟩:=oU S rd q
     obtain ⟨u,rfl,ru⟩:=rep1 l
     have T:Stp ρ H ρ (upd H a (.lst (vs++[u]))):=Stp.wrote S (List.mem_of_getElem? hn)
     exact kN pins s σ H _ _ v us Q I rx rs ⟨a,vs,u,rfl,rfl,e1,by rw [l1.length];exact c,k _ _ ⟨ρ,T,S.wrote hn ⟨_,aS,(l1.snoc ru).mono T.toCh⟩,.non⟩⟩
    ·rw [if_neg c] at ee;cases ee
theorem ic:MtR X "list.extend" (rM X.K eg):=by
 intro pins s σ H x xs v us Q I rx rs hh
 obtain ⟨ρ,h,d,ds,z,h',S,rd,l,ee,k⟩:=hh
 cases d <;> first | (cases ee;done) | skip
 rename_i n
 match ds,l,ee with
 | [],_,ee=>cases ee
 | _::_::_,_,ee=>cases ee
 | [y],l,ee=>
  unfold eg at ee
  dsimp only at ee
  cases q:h[n]? with
  | none=>rw [q] at ee;cases ee
  | some w=>
   rw [q] at ee
   cases w with
   | dct _=>cases ee
   | lst ys=>
    dsimp only at ee
    obtain ⟨zs,e2,e3⟩:=bnd ee
    by_cases c:ys.length+zs.length≤sizeLine
    ·rw [if_pos c] at e3;cases e3
     obtain ⟨a,vs,rfl,hn,e1,l1⟩:=oU S rd q
     obtain ⟨u,rfl,ru⟩:=rep1 l
     obtain ⟨b,ws,rfl,eb,l2⟩:=dy S ru e2
     have T:Stp ρ H ρ (upd H a (.lst (vs++ws))):=Stp.wrote S (List.mem_of_getElem? hn)
     exact qy pins s σ H _ _ v us Q I rx rs ⟨a,b,vs,ws,rfl,rfl,e1,eb,by rw [l1.length,l2.length];exact c,k _ _ ⟨ρ,T,S.wrote hn ⟨_,aS,(l1.append l2).mono T.toCh⟩,.non⟩⟩
    ·rw [if_neg c] at e3;cases e3
theorem xo:MtR X "list.pop" (rM X.K qB):=by
 intro pins s σ H x xs v us Q I rx rs hh
 obtain ⟨ρ,h,d,ds,z,h',S,rd,l,ee,k⟩:=hh
 cases d <;> first | (cases ee;done) | skip
 rename_i n
 match ds,l,ee with
 | _::_,_,ee=>cases ee
 | [],l,ee=>
  unfold qB at ee
  dsimp only at ee
  cases q:h[n]? with
  | none=>rw [q] at ee;cases ee
  | some w=>
   rw [q] at ee
   cases w with
   | dct _=>cases ee
   | lst ys=>
    dsimp only at ee
    obtain ⟨y,e2,e3⟩:=mpd ee
    cases e3
    obtain ⟨a,vs,rfl,hn,e1,l1⟩:=oU S rd q
    cases l
    obtain ⟨u,e4,r4⟩:=l1.got e2
    have T:Stp ρ H ρ (upd H a (.lst vs.dropLast)):=Stp.wrote S (List.mem_of_getElem? hn)
    exact xm pins s σ H _ _ v us Q I rx rs ⟨a,vs,u,rfl,rfl,e1,by rw [l1.length];exact e4,k _ _ ⟨ρ,T,S.wrote hn ⟨_,aS,l1.dropLast.mono T.toCh⟩,r4.mono T.toCh⟩⟩
end
end Sm
namespace Sb
open PySem L2 PySem.Spec PyProof.Rows
open Builtin.SmallTypes (nextOf ownedTupleIsFree ownedTupleHandOut)
def kn:Bool→String
 | true=>"list_iterator"
 | false=>"tuple_iterator"
def At (b:Bool) (h:Heap) (j l:Addr) (i:Nat):Prop:=∃o,h.get? j=some o∧o.cls=.type (kn b)∧o.data=.fields #[.ref l,.int i 0]
def Of (b:Bool) (h:Heap) (l:Addr) (items:Array Value):Prop:=match b with
 | true=>h.IsList l items
 | false=>h.IsTuple l items
variable {P:Program} {w:World} {A:Around} {E:Value→Shared→Prop} {s:Shared} {b c:Bool}
theorem At.up {h h':Heap} {j l:Addr} {i:Nat} (x:At b h j l i) (k:∀o,h.get? j=some o→h'.get? j=some o):At b h' j l i:=let ⟨o,e,r⟩:=x;⟨o,k o e,r⟩
theorem At.lt {h:Heap} {j l:Addr} {i:Nat} (x:At b h j l i):j < h.objs.size:=let ⟨_,e,_⟩:=x;Heap.lt_size e
theorem Of.data {h:Heap} {l:Addr} {items:Array Value} (x:Of b h l items):∃o n,h.get? l=some o∧o.data=.seq items n:=by
 cases b with
 | true=>obtain ⟨o,e,_,n,d⟩:=(show h.IsList l items from x);exact ⟨o,n,e,d⟩
 | false=>obtain ⟨o,e,_,n,d⟩:=(show h.IsTuple l items from x);exact ⟨o,n,e,d⟩
theorem Of.up {h h':Heap} {l:Addr} {items:Array Value} (x:Of b h l items) (k:∀o,h.get? l=some o→h'.get? l=some o):Of b h' l items:=by
 cases b with
 | true=>obtain ⟨o,e,r⟩:=(show h.IsList l items from x);exact ⟨o,k o e,r⟩
 | false=>obtain ⟨o,e,r⟩:=(show h.IsTuple l items from x);exact ⟨o,k o e,r⟩
theorem pT {j l:Addr} {i:Nat} {items:Array Value} {x:Value} {Q:Value→Shared→Prop} (hj:At b s.heap j l i) (hl:Of b s.heap l items) (hx:items[i]?=some x)
  (k:∀h',At b h' j l (i+1)→Heap.SameBut j s.heap h'→Q x {s with heap:=h'}):wpAny (model P w) A (nextOf (.ref j)) Q E s:=by
 cases b with
 | true=>exact wpAny_nextOf_list_item (show s.heap.IsListIter j l i from hj) (show s.heap.IsList l items from hl) hx k
 | false=>
  have hj':s.heap.IsTupleIter j l i:=hj
  obtain ⟨o,eo,ec,ed⟩:=hj'
  obtain ⟨ol,el,_,nl,edl⟩:=(show s.heap.IsTuple l items from hl)
  unfold nextOf
  refine wpAny_bind (wpAny_callSpecial?_slot (name:=Str.ofString "__next__") (show s.TypeIs (.ref j) "tuple_iterator" from ⟨o,eo,ec⟩) F.slot_tuple_iterator_next
   (wpAny_call_entry F.slot_tuple_iterator_next (show s.TypeIs (.ref j) "tuple_iterator" from ⟨o,eo,ec⟩) F.entry_tuple_iterator_next ?_ (F.args_tuple_iterator_next_1 _)))
  show wpAny _ _ (field (.ref j) 0 >>=_) _ _ s
  refine wpAny_bind (wpAny_field eo ed (x:=.ref l) rfl ?_)
  show wpAny _ _ (if (Value.ref l==Value.none)=true then _ else _) _ _ s
  rw [if_neg (show ¬((Value.ref l==Value.none)=true) by exact Bool.false_ne_true)]
  show wpAny _ _ (field (.ref j) 1 >>=_) _ _ s
  refine wpAny_bind (wpAny_field eo ed (x:=.int i 0) rfl ?_)
  show wpAny _ _ (seqItems? (.ref l) >>=_) _ _ s
  refine wpAny_bind (wpAny_seqItems el edl ?_)
  simp only [Int.toNat_natCast,hx]
  refine wpAny_bind (wpAny_setField eo ed (by simp) (wpAny_pure ⟨x,rfl,wpAny_pure (k _ ?_ (Heap.SameBut.update ..))⟩))
  exact ⟨_,Heap.get?_update_self _ eo (Obj.isFreed_of_fields (Obj.data_mapFields ed _)),(Obj.cls_mapFields ..).trans ec,by rw [Obj.data_mapFields ed];simp [rawInt]⟩
theorem sJ {j l:Addr} {i:Nat} {items:Array Value} {Q:Value→Shared→Prop} (hh:A.handled=none) (hj:At b s.heap j l i) (hl:Of b s.heap l items) (hx:items[i]?=none)
  (k:∀h' e,Heap.ExtBut j s.heap h'→(∃o,h'.get? e=some o∧o.cls=.type "StopIteration")→E (.ref e) {s with heap:=h'}):wpAny (model P w) A (nextOf (.ref j)) Q E s:=by
 cases b with
 | true=>exact wpAny_nextOf_list_end hh (show s.heap.IsListIter j l i from hj) (show s.heap.IsList l items from hl) hx k
 | false=>
  have hj':s.heap.IsTupleIter j l i:=hj
  obtain ⟨o,eo,ec,ed⟩:=hj'
  obtain ⟨ol,el,_,nl,edl⟩:=(show s.heap.IsTuple l items from hl)
  unfold nextOf
  refine wpAny_bind (wpAny_callSpecial?_slot (name:=Str.ofString "__next__") (show s.TypeIs (.ref j) "tuple_iterator" from ⟨o,eo,ec⟩) F.slot_tuple_iterator_next
   (wpAny_call_entry F.slot_tuple_iterator_next (show s.TypeIs (.ref j) "tuple_iterator" from ⟨o,eo,ec⟩) F.entry_tuple_iterator_next ?_ (F.args_tuple_iterator_next_1 _)))
  show wpAny _ _ (field (.ref j) 0 >>=_) _ _ s
  refine wpAny_bind (wpAny_field eo ed (x:=.ref l) rfl ?_)
  show wpAny _ _ (if (Value.ref l==Value.none)=true then _ else _) _ _ s
  rw [if_neg (show ¬((Value.ref l==Value.none)=true) by exact Bool.false_ne_true)]
  show wpAny _ _ (field (.ref j) 1 >>=_) _ _ s
  refine wpAny_bind (wpAny_field eo ed (x:=.int i 0) rfl ?_)
  show wpAny _ _ (seqItems? (.ref l) >>=_) _ _ s
  refine wpAny_bind (wpAny_seqItems el edl ?_)
  simp only [Int.toNat_natCast,hx]
  refine wpAny_bind (wpAny_rule (wpAny_bind (wpAny_setField eo ed (by simp) ?_)))
  show wpAny _ _ (newExc (.type "StopIteration") [] >>=_) _ _ _
  refine wpAny_bind ?_
  simp only [newExc,newTuple];refine wpAny_bind (wpAny_newObj_type ?_ (by size_fits))
  refine wpAny_bind (m:=firstArgMember _ _) (wpAny_of_eq (a:=Value.none) (by first | (simp only [firstArgMember];rfl) | rfl) ?_)
  refine wpAny_newObj_type ?_ (by size_fits)
  simp only [raiseNew]
  refine wpAny_bind (wpAny_handled ?_)
  first | rw [hh] | rw [show A.in1.handled=none from hh]
  refine wpAny_bind (wpAny_pure (wpAny_throw (k _ _ (((Heap.SameBut.update ..).extBut.push _).push _) ⟨_,Heap.get?_push_size _ rfl,rfl⟩)))
end Sb
namespace Sb
open PySem L2 PySem.Spec PyProof.Rows
open Builtin.SmallTypes (nextOf ownedTupleIsFree ownedTupleHandOut)
variable {P:Program} {w:World} {A:Around} {E:Value→Shared→Prop} {s:Shared} {b c:Bool}
theorem sQ {l:Addr} {items:Array Value} {Q:Value→Shared→Prop} (x:Of b s.heap l items) (k:Q (.ref s.heap.objs.size) {s with heap:=s.heap.push {cls:=.type (kn b),data:=.fields #[.ref l,.int 0 0]}}):wpAny (model P w) A (pyIter (.ref l)) Q E s:=by
 cases b with
 | true=>exact wpAny_pyIter_list (show s.heap.IsList l items from x) k
 | false=>exact wpAny_pyIter_tuple (show s.heap.IsTuple l items from x) k
theorem qS {e j l:Addr} {i:Nat} {items:Array Value} {x old:Value} {Q:Option Value→Shared→Prop} (hE:IsEnum s.heap e j i old) (hj:At b s.heap j l i) (hl:Of b s.heap l items) (hx:items[i]?=some x) (ne:e≠j)
  (k:∀h',IsEnumOut h' e j ((i:Int)+1) x s.heap.objs.size→At b h' j l (i+1)→h'.get? s.heap.objs.size=some {cls:=.type "tuple",data:=.seq #[.int i s.toks,x]}→h'.objs.size=s.heap.objs.size+1→
   (∀a o,a≠e→a≠j→s.heap.get? a=some o→h'.get? a=some o)→Q (some (.ref s.heap.objs.size)) {s with heap:=h',toks:=s.toks+1}):wpAny (model P w) A (pyNext (.ref e)) Q E s:=by
 have hT:s.TypeIs (.ref e) "enumerate":=⟨_,hE,rfl⟩
 unfold pyNext
 refine wpAny_bind (wpAny_attempt (wpAny_callSpecial?_slot (name:=Str.ofString "__next__") hT F.slot_enumerate_next (wpAny_call_entry F.slot_enumerate_next hT F.entry_enumerate_next ?_ (F.args_enumerate_next_1 _))))
 obtain ⟨hp,g,d,tk,os⟩:=s
 show wpAny _ _ (field (.ref e) 2 >>=_) _ _ _
 refine wpAny_bind (wpAny_field hE rfl (x:=.ref j) rfl (wpAny_bind (pT hj hl hx fun k₁ j₁ t₁=>?_)))
 replace t₁:Heap.SameBut j hp k₁:=t₁
 have E₁:IsEnum k₁ e j i old:=(t₁.2 e ne).trans hE
 show wpAny _ _ (field (.ref e) 3 >>=_) _ _ ⟨k₁,g,d,tk,os⟩
 refine wpAny_bind (wpAny_field E₁ rfl (x:=rawInt i) rfl ?_)
 show wpAny _ _ (field (.ref e) 4 >>=_) _ _ ⟨k₁,g,d,tk,os⟩
 refine wpAny_bind (wpAny_field E₁ rfl (x:=.none) rfl ?_)
 show wpAny _ _ (mkInt i >>=_) _ _ ⟨k₁,g,d,tk,os⟩
 refine wpAny_bind (wpAny_mkInt ?_)
 show wpAny _ _ (setField (.ref e) 3 (rawInt ((i:Int)+1)) >>=_) _ _ ⟨k₁,g,d,tk+1,os⟩
 refine wpAny_bind (wpAny_setField_rec E₁ (by simp) fun k₂ E₂ t₂=>?_)
 replace t₂:Heap.SameBut e k₁ k₂:=t₂
 replace E₂:IsEnum k₂ e j ((i:Int)+1) old:=E₂
 show wpAny _ _ (setField (.ref e) 4 .none >>=_) _ _ ⟨k₂,g,d,tk+1,os⟩
 refine wpAny_bind (wpAny_setField_rec E₂ (by simp) fun k₃ E₃ t₃=>?_)
 replace t₃:Heap.SameBut e k₂ k₃:=t₃
 replace E₃:IsEnum k₃ e j ((i:Int)+1) old:=E₃
 show wpAny _ _ (newTuple [.int i tk,x] >>=_) _ _ ⟨k₃,g,d,tk+1,os⟩
 refine wpAny_bind (wpAny_newTuple ?_)
 have E₄:IsEnum (k₃.push {cls:=.type "tuple",data:=.seq #[.int i tk,x]}) e j ((i:Int)+1) old:=Heap.get?_push_of_some _ E₃
 generalize eq₄:k₃.push {cls:=.type "tuple",data:=.seq #[.int i tk,x]}=k₄ at E₄
 have sz:k₃.objs.size=hp.objs.size:=by rw [t₃.1,t₂.1,t₁.1]
 have lte:e < hp.objs.size:=Heap.lt_size hE
 have tp:k₄.get? hp.objs.size=some {cls:=.type "tuple",data:=.seq #[.int i tk,x]}:=by rw [←eq₄,←sz];exact Heap.get?_push_size _ rfl
 have sz₄:k₄.objs.size=hp.objs.size+1:=by rw [←eq₄,Heap.size_push,sz]
 have up₄:∀a o,a≠e→a≠j→hp.get? a=some o→k₄.get? a=some o:=fun a o z1 z2 q=>by
  rw [←eq₄];exact Heap.get?_push_of_some _ (t₃.extBut a o z1 (t₂.extBut a o z1 (t₁.extBut a o z2 q)))
 have j₄:At b k₄ j l (i+1):=j₁.up fun o q=>by rw [←eq₄];exact Heap.get?_push_of_some _ (t₃.extBut j o (Ne.symm ne) (t₂.extBut j o (Ne.symm ne) q))
 show wpAny _ _ (ownedTupleIsFree (.ref e) >>=_) _ _ ⟨k₄,g,d,tk+1,os⟩
 rw [sz]
 clear eq₄ E₃ t₃ E₂ t₂ E₁ t₁ j₁ sz k₃ k₂ k₁
 refine wpAny_bind ?_
 unfold ownedTupleIsFree
 refine wpAny_bind (wpAny_field E₄ rfl (x:=.none) rfl (wpAny_pure ?_))
 simp only [if_true]
 refine wpAny_bind (wpAny_rule (wpAny_bind (wpAny_field E₄ rfl (x:=old) rfl (wpAny_bind (wpAny_setField_rec E₄ (by simp) fun k₅ E₅ t₅=>?_)))))
 replace t₅:Heap.SameBut e k₄ k₅:=t₅
 replace E₅:IsEnum k₅ e j ((i:Int)+1) x:=E₅
 show wpAny _ _ (ownedTupleHandOut (.ref e) (.ref hp.objs.size) >>=_) _ _ ⟨k₅,g,d,tk+1,os⟩
 refine wpAny_bind ?_
 unfold ownedTupleHandOut
 refine wpAny_bind (wpAny_setField_rec E₅ (by simp) fun k₆ E₆ t₆=>?_)
 replace t₆:Heap.SameBut e k₅ k₆:=t₆
 replace E₆:IsEnumOut k₆ e j ((i:Int)+1) x hp.objs.size:=E₆
 refine wpAny_setField_rec E₆ (by simp) fun k₇ E₇ t₇=>?_
 replace t₇:Heap.SameBut e k₆ k₇:=t₇
 replace E₇:IsEnumOut k₇ e j ((i:Int)+1) x hp.objs.size:=E₇
 have up:∀a o,a≠e→k₄.get? a=some o→k₇.get? a=some o:=fun a o z q=>t₇.extBut a o z (t₆.extBut a o z (t₅.extBut a o z q))
 refine wpAny_bind (wpAny_letGo (wpAny_pure ⟨_,rfl,wpAny_pure (k k₇ E₇ (j₄.up fun o q=>up j o (Ne.symm ne) q) (up _ _ (Nat.ne_of_gt lte) tp) ?_ fun a o z1 z2 q=>up a o z1 (up₄ a o z1 z2 q))⟩))
 rw [t₇.1,t₆.1,t₅.1,sz₄]
theorem tu {e j l:Addr} {i:Nat} {items:Array Value} {old:Value} {Q:Option Value→Shared→Prop} (hh:A.handled=none) (hE:IsEnum s.heap e j i old) (hj:At b s.heap j l i) (hl:Of b s.heap l items) (hx:items[i]?=none)
  (k:∀h',Heap.ExtBut j s.heap h'→Q none {s with heap:=h'}):wpAny (model P w) A (pyNext (.ref e)) Q E s:=by
 have hT:s.TypeIs (.ref e) "enumerate":=⟨_,hE,rfl⟩
 unfold pyNext
 refine wpAny_bind (wpAny_attempt (wpAny_callSpecial?_slot (name:=Str.ofString "__next__") hT F.slot_enumerate_next (wpAny_call_entry F.slot_enumerate_next hT F.entry_enumerate_next ?_ (F.args_enumerate_next_1 _))))
 show wpAny _ _ (field (.ref e) 2 >>=_) _ _ _
 refine wpAny_bind (wpAny_field hE rfl (x:=.ref j) rfl (wpAny_bind (sJ hh hj hl hx fun h' y he' ⟨o,ho,hc⟩=>?_)))
 exact wpAny_bind (wpAny_isInstance (T:="StopIteration") (b:=true) ⟨o,ho,hc⟩ isSubtype_stop (wpAny_pure (k _ he')))
theorem qR {l:Addr} {items:Array Value} {Q:Value→Shared→Prop} (x:Of b s.heap l items)
  (k:∀h',IsEnum h' (s.heap.objs.size+1) s.heap.objs.size 0 .none→At b h' s.heap.objs.size l 0→h'.objs.size=s.heap.objs.size+2→(∀a o,s.heap.get? a=some o→h'.get? a=some o)→Q (.ref (s.heap.objs.size+1)) {s with heap:=h'}):
  wpAny (model P w) A (call (.type "enumerate") [.ref l]) Q E s:=by
 cases b with
 | true=>exact call_enumerate_list (show s.heap.IsList l items from x) k
 | false=>
  have mt:PySem.Meets (Builtin.«enumerate.__new__» ⟨[.type "enumerate",.ref l],[]⟩) (fun _ R s=>s.heap.IsTuple l items∧
    R (.ok (.ret (.ref (s.heap.push {cls:=.type "tuple_iterator",data:=.fields #[.ref l,.int 0 0]}).objs.size)))
     {s with heap:=(s.heap.push {cls:=.type "tuple_iterator",data:=.fields #[.ref l,.int 0 0]}).push {cls:=.type "enumerate",data:=.fields #[.none,.bool false,.ref s.heap.objs.size,rawInt 0,.none,.none]}}):=
   .of_wp fun prog w A R s h=>by
    obtain ⟨hp,g,d,tk,os⟩:=s;obtain ⟨hl,h⟩:=h
    have sub:=sub_enumerate
    have hL:Heap.IsTuple (Shared.heap ⟨hp,g,d,tk,os⟩) l items:=hl
    obtain ⟨o0,e0,c0,n0,d0⟩:=id hL
    wp_walk
    refine wpAny_stack_any fun st=>wpAny_pure ?_
    split
    ·rename_i c _ _ _ _ _
     cases (c==Value.type "enumerate")
     ·wp_walk using wpAny_pyIter_tuple hL
      exact ⟨_,rfl,h⟩
     ·wp_walk using wpAny_pyIter_tuple hL
      exact ⟨_,rfl,h⟩
    ·wp_walk using wpAny_pyIter_tuple hL
     exact ⟨_,rfl,h⟩
  refine callType_new F.called_enumerate (by decide) (F.typeCall_enumerate_1 _) (F.newCall_enumerate_1 _) (fun obj=>F.args_object_init_2 obj _) F.entry_enumerate_new mt ⟨x,?_⟩
  have z1:(s.heap.push {cls:=.type "tuple_iterator",data:=.fields #[.ref l,.int 0 0]}).objs.size=s.heap.objs.size+1:=Heap.size_push ..
  show _∧_
  rw [z1]
  have eE:IsEnum ((s.heap.push {cls:=.type "tuple_iterator",data:=.fields #[.ref l,.int 0 0]}).push
    {cls:=.type "enumerate",data:=.fields #[.none,.bool false,.ref s.heap.objs.size,rawInt 0,.none,.none]}) (s.heap.objs.size+1) s.heap.objs.size 0 .none:=by
   have q:=Heap.get?_push_size (s.heap.push {cls:=.type "tuple_iterator",data:=.fields #[.ref l,.int 0 0]}) (o:={cls:=.type "enumerate",data:=.fields #[.none,.bool false,.ref s.heap.objs.size,rawInt 0,.none,.none]}) rfl
   rw [z1] at q;exact q
  refine ⟨⟨_,eE,rfl⟩,k _ eE ⟨_,Heap.get?_push_of_some _ (Heap.get?_push_size _ rfl),rfl,rfl⟩ (by rw [Heap.size_push,z1]) fun a o q=>Heap.get?_push_of_some _ (Heap.get?_push_of_some _ q)⟩
end Sb
namespace Sb
open PySem L2 PySem.Spec PyProof.Rows
open Builtin.SmallTypes (nextOf ownedTupleIsFree ownedTupleHandOut)
variable {P:Program} {w:World} {A:Around} {E:Value→Shared→Prop} {s:Shared} {b c:Bool}
structure Zp (z T U p q l m:Addr):Prop where
 Tz:T≠z
 Uz:U≠z
 pz:p≠z
 qz:q≠z
 TU:T≠U
 Tp:T≠p
 Tq:T≠q
 Up:U≠p
 Uq:U≠q
 pq:p≠q
 lz:l≠z
 lU:l≠U
 lp:l≠p
 lq:l≠q
 mz:m≠z
 mU:m≠U
 mp:m≠p
 mq:m≠q
theorem rh {z T U p q l m:Addr} {i:Nat} {xs ys:Array Value} {x y u v:Value} {Q:Option Value→Shared→Prop} (D:Zp z T U p q l m) (hz:IsZip s.heap z T U .none) (hT:IsPair s.heap T (.ref p) (.ref q)) (hU:IsPair s.heap U u v)
  (h1:At b s.heap p l i) (h2:At c s.heap q m i) (hl:Of b s.heap l xs) (hm:Of c s.heap m ys) (hx:xs[i]?=some x) (hy:ys[i]?=some y)
  (k:∀h',IsZip h' z T U (rawInt s.heap.objs.size)→IsPair h' U x y→At b h' p l (i+1)→At c h' q m (i+1)→IsPair h' s.heap.objs.size x y→h'.objs.size=s.heap.objs.size+1→
   (∀a o,a≠z→a≠U→a≠p→a≠q→s.heap.get? a=some o→h'.get? a=some o)→Q (some (.ref s.heap.objs.size)) {s with heap:=h'}):wpAny (model P w) A (pyNext (.ref z)) Q E s:=by
 have ty:s.TypeIs (.ref z) "zip":=⟨_,hz,rfl⟩
 unfold pyNext
 refine wpAny_bind (wpAny_attempt (wpAny_callSpecial?_slot (name:=Str.ofString "__next__") ty F.slot_zip_next (wpAny_call_entry F.slot_zip_next ty F.entry_zip_next ?_ (F.args_zip_next_1 _))))
 show wpAny _ _ (field (.ref z) 2 >>=_) _ _ _
 refine wpAny_bind (wpAny_field hz rfl (x:=.bool false) rfl ?_)
 show wpAny _ _ (field (.ref z) 3 >>=_) _ _ _
 refine wpAny_bind (wpAny_field hz rfl (x:=.ref T) rfl (wpAny_bind (wpAny_seqItems hT rfl ?_)))
 show wpAny _ _ (ownedTupleIsFree (.ref z) >>=_) _ _ _
 refine wpAny_bind ?_
 unfold ownedTupleIsFree
 refine wpAny_bind (wpAny_field hz rfl (x:=.none) rfl (wpAny_pure ?_))
 simp only [if_true]
 refine wpAny_bind (wpAny_rule (wpAny_bind (wpAny_field hz rfl (x:=.ref U) rfl (wpAny_bind (wpAny_setField_rec hz (by simp) fun k₁ z₁ t₁=>?_)))))
 replace z₁:IsZip k₁ z T U .ellipsis:=z₁
 refine wpAny_bind ?_
 simp only [List.zipIdx_cons,List.zipIdx_nil,List.forIn_cons,List.forIn_nil]
 refine wpAny_bind (wpAny_bind (wpAny_onRaise ?_))
 show wpAny _ _ (nextOf (.ref p) >>=_) _ _ _
 refine wpAny_bind (pT (h1.up fun o e=>t₁.extBut _ o D.pz e) (hl.up fun o e=>t₁.extBut _ o D.lz e) hx fun k₂ p₂ t₂=>wpAny_pure ?_)
 have U₂:IsPair k₂ U u v:=t₂.extBut _ _ D.Up (t₁.extBut _ _ D.Uz hU)
 refine wpAny_bind (wpAny_seqItems U₂ rfl (wpAny_bind (wpAny_updateSeq_pair U₂ fun k₃ U₃ t₃=>wpAny_bind (wpAny_letGo (wpAny_pure ?_)))))
 replace U₃:IsPair k₃ U x v:=U₃
 refine wpAny_bind (wpAny_bind (wpAny_onRaise ?_))
 show wpAny _ _ (nextOf (.ref q) >>=_) _ _ _
 refine wpAny_bind (pT (h2.up fun o e=>t₃.extBut _ o D.Uq.symm (t₂.extBut _ o D.pq.symm (t₁.extBut _ o D.qz e))) (hm.up fun o e=>t₃.extBut _ o D.mU (t₂.extBut _ o D.mp (t₁.extBut _ o D.mz e))) hy fun k₄ q₄ t₄=>wpAny_pure ?_)
 have U₄:IsPair k₄ U x v:=t₄.extBut _ _ D.Uq U₃
 refine wpAny_bind (wpAny_seqItems U₄ rfl (wpAny_bind (wpAny_updateSeq_pair U₄ fun k₅ U₅ t₅=>wpAny_bind (wpAny_letGo (wpAny_pure (wpAny_pure ?_))))))
 replace U₅:IsPair k₅ U x y:=U₅
 refine wpAny_bind (wpAny_seqItems U₅ rfl (wpAny_bind (wpAny_newTuple ?_)))
 have sz:k₅.objs.size=s.heap.objs.size:=by rw [t₅.1,t₄.1,t₃.1,t₂.1,t₁.1]
 have z₅:IsZip k₅ z T U .ellipsis:=t₅.extBut _ _ D.Uz.symm (t₄.extBut _ _ D.qz.symm (t₃.extBut _ _ D.Uz.symm (t₂.extBut _ _ D.pz.symm z₁)))
 have up₅:∀a o,a≠z→a≠U→a≠p→a≠q→s.heap.get? a=some o→k₅.get? a=some o:=fun a o a1 a2 a3 a4 e=>t₅.extBut _ _ a2 (t₄.extBut _ _ a4 (t₃.extBut _ _ a2 (t₂.extBut _ _ a3 (t₁.extBut _ _ a1 e))))
 have p₅:At b k₅ p l (i+1):=p₂.up fun o e=>t₅.extBut _ o D.Up.symm (t₄.extBut _ o D.pq (t₃.extBut _ o D.Up.symm e))
 have q₅:At c k₅ q m (i+1):=q₄.up fun o e=>t₅.extBut _ o D.Uq.symm e
 have zlt:z < k₅.objs.size:=Heap.lt_size z₅
 show wpAny _ _ (ownedTupleHandOut (.ref z) (.ref k₅.objs.size) >>=_) _ _ _
 refine wpAny_bind ?_
 unfold ownedTupleHandOut
 have z₆:IsZip (k₅.push {cls:=.type "tuple",data:=.seq #[x,y]}) z T U .ellipsis:=Heap.get?_push_of_some _ z₅
 refine wpAny_bind (wpAny_setField_rec z₆ (by simp) fun k₇ z₇ t₇=>?_)
 replace z₇:IsZip k₇ z T U (rawInt k₅.objs.size):=z₇
 refine wpAny_setField_rec z₇ (by simp) fun k₈ z₈ t₈=>?_
 replace z₈:IsZip k₈ z T U (rawInt k₅.objs.size):=z₈
 have up:∀a o,a≠z→k₅.get? a=some o→k₈.get? a=some o:=fun a o a1 e=>t₈.extBut _ _ a1 (t₇.extBut _ _ a1 (Heap.get?_push_of_some _ e))
 have T₈:IsPair k₈ k₅.objs.size x y:=t₈.extBut _ _ (Nat.ne_of_gt zlt) (t₇.extBut _ _ (Nat.ne_of_gt zlt) (Heap.get?_push_size _ rfl))
 have s8:k₈.objs.size=k₅.objs.size+1:=by rw [t₈.1,t₇.1,Heap.size_push]
 rw [sz] at z₈ T₈ s8
 refine wpAny_pure ⟨_,rfl,wpAny_pure ?_⟩
 show Q (some (.ref k₅.objs.size)) _
 rw [sz]
 exact k k₈ z₈ (up _ _ D.Uz U₅) (p₅.up fun o e=>up _ o D.pz e) (q₅.up fun o e=>up _ o D.qz e) T₈ s8 fun a o a1 a2 a3 a4 e=>up a o a1 (up₅ a o a1 a2 a3 a4 e)
theorem t9 {z T U p q l m:Addr} {i:Nat} {xs ys:Array Value} {u v:Value} {Q:Option Value→Shared→Prop} (hh:A.handled=none) (D:Zp z T U p q l m) (hz:IsZip s.heap z T U .none) (hT:IsPair s.heap T (.ref p) (.ref q)) (hU:IsPair s.heap U u v)
  (h1:At b s.heap p l i) (h2:At c s.heap q m i) (hl:Of b s.heap l xs) (hm:Of c s.heap m ys) (he:xs[i]?=none∨ys[i]?=none)
  (k:∀h',(∀a o,a≠z→a≠U→a≠p→a≠q→s.heap.get? a=some o→h'.get? a=some o)→Q none {s with heap:=h'}):wpAny (model P w) A (pyNext (.ref z)) Q E s:=by
 have ty:s.TypeIs (.ref z) "zip":=⟨_,hz,rfl⟩
 unfold pyNext
 refine wpAny_bind (wpAny_attempt (wpAny_callSpecial?_slot (name:=Str.ofString "__next__") ty F.slot_zip_next (wpAny_call_entry F.slot_zip_next ty F.entry_zip_next ?_ (F.args_zip_next_1 _))))
 have fin:∀h' e,(∀a o,a≠z→a≠U→a≠p→a≠q→s.heap.get? a=some o→h'.get? a=some o)→(∃o,h'.get? e=some o∧o.cls=.type "StopIteration")→
   (fun e s'=>wpAny (model P w) A (isInstance e (.type "StopIteration")) (fun r s''=>(if r=true then Q none s'' else E e s'')) E s') (.ref e) {s with heap:=h'}:=fun h' e up ⟨o,ho,hc⟩=>
  wpAny_isInstance (T:="StopIteration") (b:=true) ⟨o,ho,hc⟩ isSubtype_stop (by rw [if_pos rfl];exact k h' up)
 show wpAny _ _ (field (.ref z) 2 >>=_) _ _ _
 refine wpAny_bind (wpAny_field hz rfl (x:=.bool false) rfl ?_)
 show wpAny _ _ (field (.ref z) 3 >>=_) _ _ _
 refine wpAny_bind (wpAny_field hz rfl (x:=.ref T) rfl (wpAny_bind (wpAny_seqItems hT rfl ?_)))
 show wpAny _ _ (ownedTupleIsFree (.ref z) >>=_) _ _ _
 refine wpAny_bind ?_
 unfold ownedTupleIsFree
 refine wpAny_bind (wpAny_field hz rfl (x:=.none) rfl (wpAny_pure ?_))
 simp only [if_true]
 refine wpAny_bind (wpAny_rule (wpAny_bind (wpAny_field hz rfl (x:=.ref U) rfl (wpAny_bind (wpAny_setField_rec hz (by simp) fun k₁ z₁ t₁=>?_)))))
 replace z₁:IsZip k₁ z T U .ellipsis:=z₁
 refine wpAny_bind ?_
 simp only [List.zipIdx_cons,List.zipIdx_nil,List.forIn_cons,List.forIn_nil]
 refine wpAny_bind (wpAny_bind (wpAny_onRaise ?_))
 show wpAny _ _ (nextOf (.ref p) >>=_) _ _ _
 cases ex:xs[i]? with
 | none=>
  refine wpAny_bind (sJ hh (h1.up fun o e=>t₁.extBut _ o D.pz e) (hl.up fun o e=>t₁.extBut _ o D.lz e) ex fun k₂ e t₂ ⟨oe,hoe,hce⟩=>?_)
  have z₂:IsZip k₂ z T U .ellipsis:=t₂ _ _ D.pz.symm z₁
  have ez:e≠z:=fun r=>by subst r;rw [z₂] at hoe;cases hoe;simp at hce
  refine wpAny_setField_rec z₂ (by simp) fun k₃ _ t₃=>?_
  refine wpAny_bind (wpAny_isInstance (T:="StopIteration") (b:=true) ⟨oe,t₃.extBut _ _ ez hoe,hce⟩ isSubtype_stop (wpAny_pure (k _ fun a o a1 _ a3 _ r=>t₃.extBut _ _ a1 (t₂ _ _ a3 (t₁.extBut _ _ a1 r)))))
 | some x=>
  have ey:ys[i]?=none:=by rcases he with r | r;rw [ex] at r;cases r;exact r
  refine wpAny_bind (pT (h1.up fun o e=>t₁.extBut _ o D.pz e) (hl.up fun o e=>t₁.extBut _ o D.lz e) ex fun k₂ p₂ t₂=>wpAny_pure ?_)
  have U₂:IsPair k₂ U u v:=t₂.extBut _ _ D.Up (t₁.extBut _ _ D.Uz hU)
  refine wpAny_bind (wpAny_seqItems U₂ rfl (wpAny_bind (wpAny_updateSeq_pair U₂ fun k₃ U₃ t₃=>wpAny_bind (wpAny_letGo (wpAny_pure ?_)))))
  refine wpAny_bind (wpAny_bind (wpAny_onRaise ?_))
  show wpAny _ _ (nextOf (.ref q) >>=_) _ _ _
  refine wpAny_bind (sJ hh (h2.up fun o e=>t₃.extBut _ o D.Uq.symm (t₂.extBut _ o D.pq.symm (t₁.extBut _ o D.qz e))) (hm.up fun o e=>t₃.extBut _ o D.mU (t₂.extBut _ o D.mp (t₁.extBut _ o D.mz e))) ey fun k₄ e t₄ ⟨oe,hoe,hce⟩=>?_)
  have z₄:IsZip k₄ z T U .ellipsis:=t₄ _ _ D.qz.symm (t₃.extBut _ _ D.Uz.symm (t₂.extBut _ _ D.pz.symm z₁))
  have ez:e≠z:=fun r=>by subst r;rw [z₄] at hoe;cases hoe;simp at hce
  refine wpAny_setField_rec z₄ (by simp) fun k₅ _ t₅=>?_
  refine wpAny_bind (wpAny_isInstance (T:="StopIteration") (b:=true) ⟨oe,t₅.extBut _ _ ez hoe,hce⟩ isSubtype_stop (wpAny_pure (k _ fun a o a1 a2 a3 a4 r=>t₅.extBut _ _ a1 (t₄ _ _ a4 (t₃.extBut _ _ a2 (t₂.extBut _ _ a3 (t₁.extBut _ _ a1 r)))))))
abbrev g1 (b:Bool) (h:Heap) (l:Addr):Heap:=h.push {cls:=.type (kn b),data:=.fields #[.ref l,.int 0 0]}
abbrev g2 (b c:Bool) (h:Heap) (l m:Addr):Heap:=(g1 b h l).push {cls:=.type (kn c),data:=.fields #[.ref m,.int 0 0]}
abbrev g3 (b c:Bool) (h:Heap) (l m:Addr):Heap:=(g2 b c h l m).push {cls:=.type "tuple",data:=.seq #[.ref h.objs.size,.ref (g1 b h l).objs.size]}
abbrev g4 (b c:Bool) (h:Heap) (l m:Addr):Heap:=(g3 b c h l m).push {cls:=.type "tuple",data:=.seq #[.none,.none]}
abbrev g5 (b c:Bool) (h:Heap) (l m:Addr):Heap:=(g4 b c h l m).push {cls:=.type "zip",data:=.fields #[.none,.bool false,.bool false,.ref (g2 b c h l m).objs.size,.ref (g3 b c h l m).objs.size]}
theorem t8 (b c:Bool) (l m:Addr) (xs ys:Array Value):PySem.Meets (Builtin.«zip.__new__» ⟨[.type "zip",.ref l,.ref m],[]⟩) (fun _ R s=>Of b s.heap l xs∧Of c s.heap m ys∧R (.ok (.ret (.ref (g4 b c s.heap l m).objs.size))) {s with heap:=g5 b c s.heap l m}):=
 .of_wp fun prog w A R s h=>by
  obtain ⟨hp,g,d,tk,os⟩:=s;obtain ⟨hl,hm,h⟩:=h
  have sub:=sub_zip
  have L1:Of b (Shared.heap ⟨hp,g,d,tk,os⟩) l xs:=hl
  have L2:Of c (Shared.heap ⟨hp.push {cls:=.type (kn b),data:=.fields #[.ref l,.int 0 0]},g,d,tk,os⟩) m ys:=hm.up fun o e=>Heap.get?_push_of_some _ e
  wp_walk using sQ L1,sQ L2
  exact ⟨_,rfl,h⟩
theorem rg {l m:Addr} {xs ys:Array Value} {Q:Value→Shared→Prop} (hl:Of b s.heap l xs) (hm:Of c s.heap m ys)
  (k:∀h',IsZip h' (s.heap.objs.size+4) (s.heap.objs.size+2) (s.heap.objs.size+3) .none→IsPair h' (s.heap.objs.size+2) (.ref s.heap.objs.size) (.ref (s.heap.objs.size+1))→IsPair h' (s.heap.objs.size+3) .none .none→
   At b h' s.heap.objs.size l 0→At c h' (s.heap.objs.size+1) m 0→h'.objs.size=s.heap.objs.size+5→(∀a o,s.heap.get? a=some o→h'.get? a=some o)→Q (.ref (s.heap.objs.size+4)) {s with heap:=h'}):
  wpAny (model P w) A (call (.type "zip") [.ref l,.ref m]) Q E s:=by
 refine callType_new F.called_zip (by decide) (F.typeCall_zip_2 _ _) (F.newCall_zip_2 _ _) (fun obj=>F.args_object_init_3 obj _ _) F.entry_zip_new (t8 b c l m xs ys) ⟨hl,hm,?_⟩
 have z1:(g1 b s.heap l).objs.size=s.heap.objs.size+1:=Heap.size_push ..
 have z2:(g2 b c s.heap l m).objs.size=s.heap.objs.size+2:=by rw [Heap.size_push,z1]
 have z3:(g3 b c s.heap l m).objs.size=s.heap.objs.size+3:=by rw [Heap.size_push,z2]
 have z4:(g4 b c s.heap l m).objs.size=s.heap.objs.size+4:=by rw [Heap.size_push,z3]
 have z5:(g5 b c s.heap l m).objs.size=s.heap.objs.size+5:=by rw [Heap.size_push,z4]
 have e5:(g5 b c s.heap l m).get? (g4 b c s.heap l m).objs.size=some _:=Heap.get?_push_size _ rfl
 have e4:(g5 b c s.heap l m).get? (g3 b c s.heap l m).objs.size=some _:=Heap.get?_push_of_some _ (Heap.get?_push_size _ rfl)
 have e3:(g5 b c s.heap l m).get? (g2 b c s.heap l m).objs.size=some _:=Heap.get?_push_of_some _ (Heap.get?_push_of_some _ (Heap.get?_push_size _ rfl))
 have e2:(g5 b c s.heap l m).get? (g1 b s.heap l).objs.size=some _:=Heap.get?_push_of_some _ (Heap.get?_push_of_some _ (Heap.get?_push_of_some _ (Heap.get?_push_size _ rfl)))
 have e1:(g5 b c s.heap l m).get? s.heap.objs.size=some _:=Heap.get?_push_of_some _ (Heap.get?_push_of_some _ (Heap.get?_push_of_some _ (Heap.get?_push_of_some _ (Heap.get?_push_size _ rfl))))
 show _∧_
 rw [z2,z3,z4] at e5
 rw [z1,z2] at e3
 rw [z3] at e4
 rw [z1] at e2
 rw [z4]
 exact ⟨⟨_,e5,rfl⟩,k _ e5 e3 e4 ⟨_,e1,rfl,rfl⟩ ⟨_,e2,rfl,rfl⟩ z5 fun a o x=>Heap.get?_push_of_some _ (Heap.get?_push_of_some _ (Heap.get?_push_of_some _ (Heap.get?_push_of_some _ (Heap.get?_push_of_some _ x))))⟩
end Sb
namespace Sb
open PySem L2 PySem.Spec PyProof.Rows
section
variable {X:Cx} {pins:List (Addr×Obj)} {σ:L2.St} {H:Hp} {s:Shared} {h':Heap} {fp:List Addr}
theorem iQ {t':Nat} (I:L2.Inv X pins σ H s) (k:∀b o,b∉fp→s.heap.get? b=some o→h'.get? b=some o) (hf:∀b∈fp,fm X pins H b):L2.Inv X pins σ H {s with heap:=h',toks:=t'}:=by
 have nit:∀b u,H b=some u→b∉fp:=fun b u e z=>by rw [(hf b z).1] at e;cases e
 have nL:X.env.locals∉fp:=fun z=>(hf _ z).2.1 rfl
 refine I.step (g':=s.gens) (d':=s.drawn) (ch:=fp) (fun b hb=>?_) (fun b o _ _ hc e _=>k b o hc e) (fun b o _ _ hc e _=>⟨o.slots,k b o hc e⟩) (fun _ _ _ _ n=>n)
  (fun b o hc e=>⟨o,k b o hc e⟩) (fun _ _ e=>e) (fun _ _ _ e=>e) (fun b ps e=>⟨#[],by rw [e];simp⟩) (fun m hm=>?_) (fun b u e=>?_) I.bare
 ·obtain ⟨f0,f1,f2,f3,f4,f5⟩:=hf b hb
  exact ⟨f3,f1,f4,f5⟩
 ·obtain ⟨o,es,ep,ho,r⟩:=hm
  exact ⟨o,es,ep,k _ o nL ho,r⟩
 ·refine (I.hok b u e).nD (fun c v hc q=>k c v ?_ q) (fun _ q=>q) fun _ _ q=>q
  rcases hc with z | z
  ·rw [z];exact nit b u e
  ·exact nit c _ z
theorem pJ {t':Nat} {vs:List V} {us:List Value} {n:Nat} (I:L2.Inv X pins σ H s) (k:∀b o,b∉fp→s.heap.get? b=some o→h'.get? b=some o) (hf:∀b∈fp,fm X pins H b) (hlt:∀b∈fp,b < s.heap.objs.size)
  (ht:h'.get? s.heap.objs.size=some {cls:=.type "tuple",data:=.seq us.toArray n}) (r:Vals vs us) (hz:vs.length≤sizeLine):L2.Inv X pins σ (upd H s.heap.objs.size (.tup vs)) {s with heap:=h',toks:=t'}:=by
 have nit:∀b u,H b=some u→b∉fp:=fun b u e z=>by rw [(hf b z).1] at e;cases e
 have nL:X.env.locals∉fp:=fun z=>(hf _ z).2.1 rfl
 have hp:H s.heap.objs.size=none:=I.hok.fresh (Nat.le_refl _)
 have np:∀b o,s.heap.get? b=some o→b≠s.heap.objs.size:=fun b o e=>Nat.ne_of_lt (Heap.lt_size e)
 have nH:∀b u,H b=some u→b≠s.heap.objs.size:=fun b u e=>aQ e hp
 refine I.step (g':=s.gens) (d':=s.drawn) (ch:=fp) (fun b hb=>?_) (fun b o _ _ hc e _=>k b o hc e) (fun b o _ _ hc e _=>⟨o.slots,k b o hc e⟩) (fun b o _ e n=>by rw [aD (np b o e)];exact n)
  (fun b o hc e=>⟨o,k b o hc e⟩) (fun b _ e=>by rw [aD (nH b _ e)];exact e) (fun b _ _ e=>by rw [aD (nH b _ e)];exact e) (fun b ps e=>⟨#[],by rw [aD (nH b _ e),e];simp⟩) (fun m hm=>?_) (fun b u e=>?_) I.bare
 ·obtain ⟨f0,f1,f2,f3,f4,f5⟩:=hf b hb
  exact ⟨f3,f1,f4,f5⟩
 ·obtain ⟨o,es,ep,ho,q⟩:=hm
  exact ⟨o,es,ep,k _ o nL ho,q⟩
 ·by_cases z:b=s.heap.objs.size
  ·subst z
   rw [aS] at e
   cases e
   exact ⟨hz,us,r,⟨_,ht,rfl,⟨n,rfl⟩,rfl⟩⟩
  ·rw [aD z] at e
   refine (I.hok b u e).nD (fun c v hc q=>k c v ?_ q) (fun c q=>?_) fun c u q=>?_
   ·rcases hc with y | y
    ·rw [y];exact nit b u e
    ·exact nit c _ y
   ·rw [aD (nH _ _ q)];exact q
   ·rw [aD (nH _ _ q)];exact q
end
def SqB (b:Bool) (K:PySem.W.Frag) (H:Hp) (l:Addr) (xs:List V):Prop:=match b with
 | true=>SqL K H l xs
 | false=>SqT K H l xs
theorem SqB.of {X:Cx} {pins:List (Addr×Obj)} {σ:L2.St} {H:Hp} {s:Shared} {b:Bool} {l:Addr} {xs:List V} (I:L2.Inv X pins σ H s) (q:SqB b X.K H l xs):∃its:List Value,Vals xs its∧Of b s.heap l its.toArray:=by
 cases b with
 | true=>obtain ⟨its,r,p,_⟩:=I.list (show SqL X.K H l xs from q);exact ⟨its,r,p.isList⟩
 | false=>obtain ⟨its,r,p,_⟩:=I.tuple (show SqT X.K H l xs from q);exact ⟨its,r,p⟩
theorem SqB.inj {X:Cx} {pins:List (Addr×Obj)} {σ:L2.St} {H:Hp} {s:Shared} {b:Bool} {l:Addr} {xs ys:List V} (I:L2.Inv X pins σ H s) (q:SqB b X.K H l xs) (q':SqB b X.K H l ys):xs=ys:=by
 cases b with
 | true=>exact I.nX q q'
 | false=>exact I.ku q q'
def Ite (b:Bool) (K:PySem.W.Frag) (l:Addr):It:=
 ⟨fun i H=>∃xs x,SqB b K H l xs∧xs[i]?=some x,fun i H x H'=>∃p y,H p=none∧x=.ref p∧H'=upd H p (.tup [.int (i:Int),y])∧∀xs,SqB b K H l xs→xs[i]?=some y,fun i H=>∃xs,SqB b K H l xs∧xs.length≤i⟩
def Itz (b c:Bool) (K:PySem.W.Frag) (l m:Addr):It:=
 ⟨fun i H=>∃xs ys x y,SqB b K H l xs∧SqB c K H m ys∧xs[i]?=some x∧ys[i]?=some y,
  fun i H x H'=>∃p u v,H p=none∧x=.ref p∧H'=upd H p (.tup [u,v])∧(∀xs,SqB b K H l xs→xs[i]?=some u)∧∀xs,SqB c K H m xs→xs[i]?=some v,
  fun i H=>∃xs ys,SqB b K H l xs∧SqB c K H m ys∧(xs.length≤i∨ys.length≤i)⟩
theorem qf {P:Program} {w:World} {K:PySem.W.Frag} {es:List Expr} {k0:Nat} {pos:Pos} (b:Bool) (l e j:Addr) (ne:e≠j):Turn P w K (.Tuple es k0 pos) (Ite b K l) [e,j] e (fun i h=>(∃old,IsEnum h e j i old)∧At b h j l i) where
 mem:=by simp
 obj:=fun i h st a ha=>by
  obtain ⟨⟨old,h1⟩,o,h2,_,d2⟩:=st
  simp at ha
  rcases ha with rfl | rfl
  ·exact ⟨_,h1,fun v z=>by cases z⟩
  ·exact ⟨o,h2,fun v z=>by rw [d2] at z;cases z⟩
 keep:=fun i h h' ⟨⟨old,h1⟩,h2⟩ k=>⟨⟨old,k e (by simp) _ h1⟩,h2.up fun o q=>k j (by simp) o q⟩
 item:=by
  intro X hP hw hK hc i pins s σ H E I hf st hg
  subst hP hw hK
  obtain ⟨xs,x,hq,hx⟩:=hg
  obtain ⟨⟨old,h1⟩,h2⟩:=st
  obtain ⟨its,rv,hO⟩:=hq.of I
  obtain ⟨u,hu,ru⟩:=rv.get hx
  have hlt:∀a∈[e,j],a < s.heap.objs.size:=fun a ha=>by
   simp at ha
   rcases ha with rfl | rfl
   ·exact Heap.lt_size h1
   ·exact h2.lt
  refine qS h1 h2 hO (x:=u) (by simpa using hu) ne fun h' a1 a2 a3 a4 a5=>⟨_,rfl,wpAny_letOwnedTupleGo_enum a1 fun h'' b1 b2=>?_⟩
  have hp:H s.heap.objs.size=none:=I.hok.fresh (Nat.le_refl _)
  have I1:=pJ (t':=s.toks+1) (vs:=[.int (i:Int),x]) (us:=[.int i s.toks,u]) (n:=0) I (fun a o ha q=>a5 a o (fun z=>ha (by simp [z])) (fun z=>ha (by simp [z])) q) hf hlt a3 (.cons ⟨_,rfl⟩ (.cons ru .nil)) (show 2≤sizeLine by decide)
  have hf1:∀a∈[e,j],fm X pins (upd H s.heap.objs.size (.tup [.int (i:Int),x])) a:=fun a ha=>by
   obtain ⟨f0,f⟩:=hf a ha
   exact ⟨by rw [aD (Nat.ne_of_lt (hlt a ha))];exact f0,f⟩
  have I2:=iQ (t':=s.toks+1) I1 (h':=h'') (fun a o ha q=>b2.extBut a o (fun z=>ha (by simp [z])) q) hf1
  exact ⟨.ref s.heap.objs.size,_,I2,rfl,⟨_,x,hp,rfl,rfl,fun ys hy=>by rw [hy.inj I hq];exact hx⟩,⟨⟨_,by simpa using b1⟩,a2.up fun o q=>b2.extBut j o (Ne.symm ne) q⟩,fun a ha=>(hf1 a ha).1⟩
 done:=by
  intro X hP hw hK hc i pins s σ H E I hf st hg
  subst hP hw hK
  obtain ⟨xs,hq,hx⟩:=hg
  obtain ⟨⟨old,h1⟩,h2⟩:=st
  obtain ⟨its,rv,hO⟩:=hq.of I
  have hl:=rv.length
  exact tu (I.ok.hd hc) h1 h2 hO (by simp;omega) fun h' eb=>⟨rfl,iQ (t':=s.toks) I (fun a o ha q=>eb a o (fun z=>ha (by simp [z])) q) hf⟩
 self:=fun A i s Q E ⟨⟨old,h1⟩,_⟩ q=>by
  have hT:s.TypeIs (.ref e) "enumerate":=⟨_,h1,rfl⟩
  refine wpAny_pyIter_slot hT F.slot_enumerate_iter (wpAny_call_entry F.slot_enumerate_iter hT F.entry_enumerate_iter ?_ (F.args_enumerate_iter_1 _))
  show wpAny _ _ (ret (.ref e)) _ _ s
  exact wpAny_pure ⟨_,rfl,"enumerate",_,hT,F.slot_enumerate_next.lookup,q⟩
theorem rn {P:Program} {w:World} {K:PySem.W.Frag} {es:List Expr} {k0:Nat} {pos:Pos} (b c:Bool) (z T U p q l m:Addr) (D:Zp z T U p q l m):
  Turn P w K (.Tuple es k0 pos) (Itz b c K l m) [z,T,U,p,q] z (fun i h=>IsZip h z T U .none∧IsPair h T (.ref p) (.ref q)∧(∃u v,IsPair h U u v)∧At b h p l i∧At c h q m i) where
 mem:=by simp
 obj:=fun i h st a ha=>by
  obtain ⟨h1,h2,⟨u,v,h3⟩,⟨o4,h4,_,d4⟩,⟨o5,h5,_,d5⟩⟩:=st
  simp at ha
  rcases ha with rfl | rfl | rfl | rfl | rfl
  ·exact ⟨_,h1,fun v z=>by cases z⟩
  ·exact ⟨_,h2,fun v z=>by cases z⟩
  ·exact ⟨_,h3,fun v z=>by cases z⟩
  ·exact ⟨o4,h4,fun v z=>by rw [d4] at z;cases z⟩
  ·exact ⟨o5,h5,fun v z=>by rw [d5] at z;cases z⟩
 keep:=fun i h h' ⟨h1,h2,⟨u,v,h3⟩,h4,h5⟩ k=>⟨k z (by simp) _ h1,k T (by simp) _ h2,⟨u,v,k U (by simp) _ h3⟩,h4.up fun o e=>k p (by simp) o e,h5.up fun o e=>k q (by simp) o e⟩
 item:=by
  intro X hP hw hK hc i pins s σ H E I hf st hg
  subst hP hw hK
  obtain ⟨xs,ys,x,y,hq1,hq2,hx,hy⟩:=hg
  obtain ⟨h1,h2,⟨u,v,h3⟩,h4,h5⟩:=st
  obtain ⟨is1,rv1,hO1⟩:=hq1.of I
  obtain ⟨is2,rv2,hO2⟩:=hq2.of I
  obtain ⟨u1,hu1,ru1⟩:=rv1.get hx
  obtain ⟨u2,hu2,ru2⟩:=rv2.get hy
  have hlt:∀a∈[z,T,U,p,q],a < s.heap.objs.size:=fun a ha=>by
   simp at ha
   rcases ha with rfl | rfl | rfl | rfl | rfl
   ·exact Heap.lt_size h1
   ·exact Heap.lt_size h2
   ·exact Heap.lt_size h3
   ·exact h4.lt
   ·exact h5.lt
  refine rh D h1 h2 h3 h4 h5 hO1 hO2 (x:=u1) (y:=u2) (by simpa using hu1) (by simpa using hu2) fun h' a1 a2 a3 a4 a5 a6 a7=>⟨_,rfl,wpAny_letOwnedTupleGo_zip a1 fun h'' b1 b2=>?_⟩
  have hp:H s.heap.objs.size=none:=I.hok.fresh (Nat.le_refl _)
  have I1:=pJ (t':=s.toks) (vs:=[x,y]) (us:=[u1,u2]) (n:=0) I (h':=h') (fp:=[z,T,U,p,q]) (fun a o ha e=>a7 a o (fun r=>ha (by simp [r])) (fun r=>ha (by simp [r])) (fun r=>ha (by simp [r])) (fun r=>ha (by simp [r])) e) hf hlt a5 (.cons ru1 (.cons ru2 .nil)) (show 2≤sizeLine by decide)
  have hf1:∀a∈[z,T,U,p,q],fm X pins (upd H s.heap.objs.size (.tup [x,y])) a:=fun a ha=>by
   obtain ⟨f0,f⟩:=hf a ha
   exact ⟨by rw [aD (Nat.ne_of_lt (hlt a ha))];exact f0,f⟩
  have I2:=iQ (t':=s.toks) I1 (h':=h'') (fp:=[z,T,U,p,q]) (fun a o ha e=>b2.extBut a o (fun r=>ha (by simp [r])) e) hf1
  have hT':=a7 T _ D.Tz D.TU D.Tp D.Tq h2
  exact ⟨.ref s.heap.objs.size,_,I2,rfl,⟨_,x,y,hp,rfl,rfl,fun zs hz=>by rw [hz.inj I hq1];exact hx,fun zs hz=>by rw [hz.inj I hq2];exact hy⟩,
   ⟨b1,b2.extBut T _ D.Tz hT',⟨_,_,b2.extBut U _ D.Uz a2⟩,a3.up fun o e=>b2.extBut p o D.pz e,a4.up fun o e=>b2.extBut q o D.qz e⟩,fun a ha=>(hf1 a ha).1⟩
 done:=by
  intro X hP hw hK hc i pins s σ H E I hf st hg
  subst hP hw hK
  obtain ⟨xs,ys,hq1,hq2,hx⟩:=hg
  obtain ⟨h1,h2,⟨u,v,h3⟩,h4,h5⟩:=st
  obtain ⟨is1,rv1,hO1⟩:=hq1.of I
  obtain ⟨is2,rv2,hO2⟩:=hq2.of I
  have hl1:=rv1.length
  have hl2:=rv2.length
  exact t9 (I.ok.hd hc) D h1 h2 h3 h4 h5 hO1 hO2 (by simp;omega) fun h' eb=>⟨rfl,iQ (t':=s.toks) I (fp:=[z,T,U,p,q]) (fun a o ha e=>eb a o (fun r=>ha (by simp [r])) (fun r=>ha (by simp [r])) (fun r=>ha (by simp [r])) (fun r=>ha (by simp [r])) e) hf⟩
 self:=fun A i s Q E st h=>wpAny_pyIter_zip st.1 h
end Sb
namespace Sb
open PySem L2 PySem.Spec PyProof.Rows
theorem boot_zip:bootBuiltins "zip"=some (.type "zip"):=by decide+kernel
theorem q0:bootBuiltins "enumerate"=some (.type "enumerate"):=by decide+kernel
theorem x3 (n l m:Nat) (hl:l < n) (hm:m < n):Zp (n+4) (n+2) (n+3) n (n+1) l m:=by
 constructor <;> (intro h;have h:(_:Nat)=_:=h;omega)
section
variable {X:Cx} {es:List Expr} {k0:Nat} {tpos:Pos}
theorem uN {a:Expr} {ta:TA} {p pos:Pos} (hg:Gl X "enumerate") (hm:X.mg "enumerate"=none) (ha:PA X [a] ta) (hs:starEach [a] X.env=[(false,eval a X.env)]:=by kernel_rfl):
  PI X (.Tuple es k0 tpos) (.Call (.Name "enumerate" p) [a] [] pos) (fun σ H R=>ta σ H fun vs H1=>∃l b,vs=[.ref l]∧(∃xs,SqB b X.K H1 l xs)∧R (Ite b X.K l) H1):=by
 intro pins s σ H R I h
 refine Call_ (fI I hg hm q0 (PyProof.Rows.callWith_type1 (thn (ha pos pins s σ H _ I h) fun us s1 ⟨vs,H1,I1,r1,q1⟩=>?_) hs rfl))
 obtain ⟨l,b,e,⟨xs,hq⟩,q⟩:=q1
 subst e
 obtain ⟨u,rfl,ru⟩:=Vals.one r1
 obtain rfl:u=Value.ref l:=ru
 obtain ⟨its,rv,hO⟩:=hq.of I1
 refine qR hO fun h' a1 a2 a3 a4=>?_
 have I2:L2.Inv X pins σ H1 {s1 with heap:=h'}:=I1.kept (t':=s1.toks) a4
 have hf:∀c∈[s1.heap.objs.size+1,s1.heap.objs.size],fm X pins H1 c:=fun c hc=>by
  simp at hc
  rcases hc with rfl | rfl
  ·exact I1.o6 (Nat.le_succ _) (I1.hok.fresh (Nat.le_succ _))
  ·exact I1.o6 (Nat.le_refl _) (I1.hok.fresh (Nat.le_refl _))
 have T:=qf (P:=X.prog) (w:=X.w) (K:=X.K) (es:=es) (k0:=k0) (pos:=tpos) b l (s1.heap.objs.size+1) s1.heap.objs.size (Nat.succ_ne_self _)
 refine T.self X.A 0 {s1 with heap:=h'} _ X.xe ⟨⟨_,a1⟩,a2⟩ ?_
 exact ⟨_,[s1.heap.objs.size+1,s1.heap.objs.size],_,_,H1,rfl,I2,T,⟨⟨_,a1⟩,a2⟩,hf,q⟩
theorem wI {a a':Expr} {ta:TA} {p pos:Pos} (hg:Gl X "zip") (hm:X.mg "zip"=none) (ha:PA X [a,a'] ta) (hs:starEach [a,a'] X.env=[(false,eval a X.env),(false,eval a' X.env)]:=by kernel_rfl) (hs2:starEach [a'] X.env=[(false,eval a' X.env)]:=by kernel_rfl):
  PI X (.Tuple es k0 tpos) (.Call (.Name "zip" p) [a,a'] [] pos) (fun σ H R=>ta σ H fun vs H1=>∃l m b c,vs=[.ref l,.ref m]∧(∃xs,SqB b X.K H1 l xs)∧(∃xs,SqB c X.K H1 m xs)∧R (Itz b c X.K l m) H1):=by
 intro pins s σ H R I h
 refine Call_ (fI I hg hm boot_zip (PyProof.Rows.callWith_type1 (thn (ha pos pins s σ H _ I h) fun us s1 ⟨vs,H1,I1,r1,q1⟩=>?_) (by rw [hs,hs2]) (by rw [hs2];rfl)))
 obtain ⟨l,m,b,c,e,⟨xs,hq⟩,⟨ys,hq'⟩,q⟩:=q1
 subst e
 obtain ⟨u,v,rfl,ru,rv'⟩:=Vals.two r1
 obtain rfl:u=Value.ref l:=ru
 obtain rfl:v=Value.ref m:=rv'
 obtain ⟨its,rv,hO⟩:=hq.of I1
 obtain ⟨its',rv',hO'⟩:=hq'.of I1
 refine rg hO hO' fun h' a1 a2 a3 a4 a5 a6 a7=>?_
 have I2:L2.Inv X pins σ H1 {s1 with heap:=h'}:=I1.kept (t':=s1.toks) a7
 have hf:∀d∈[s1.heap.objs.size+4,s1.heap.objs.size+2,s1.heap.objs.size+3,s1.heap.objs.size,s1.heap.objs.size+1],fm X pins H1 d:=fun d hd=>by
  simp at hd
  have:s1.heap.objs.size≤d:=by omega
  exact I1.o6 this (I1.hok.fresh this)
 have ll:l < s1.heap.objs.size:=by obtain ⟨o,n,e,_⟩:=hO.data;exact Heap.lt_size e
 have lm:m < s1.heap.objs.size:=by obtain ⟨o,n,e,_⟩:=hO'.data;exact Heap.lt_size e
 have D:Zp (s1.heap.objs.size+4) (s1.heap.objs.size+2) (s1.heap.objs.size+3) s1.heap.objs.size (s1.heap.objs.size+1) l m:=x3 _ _ _ ll lm
 have T:=rn (P:=X.prog) (w:=X.w) (K:=X.K) (es:=es) (k0:=k0) (pos:=tpos) b c _ _ _ _ _ l m D
 refine T.self X.A 0 {s1 with heap:=h'} _ X.xe ⟨a1,a2,⟨_,_,a3⟩,a4,a5⟩ ?_
 exact ⟨_,[s1.heap.objs.size+4,s1.heap.objs.size+2,s1.heap.objs.size+3,s1.heap.objs.size,s1.heap.objs.size+1],_,_,H1,rfl,I2,T,⟨a1,a2,⟨_,_,a3⟩,a4,a5⟩,hf,q⟩
end
end Sb
namespace Sm
open PySem L2 PySem.Spec PyProof.Rows
def fZ:Nat→List D→List D
 | _,[]=>[]
 | k,x::r=>.tup [.int (k:Int),x]::fZ (k+1) r
def gW:List D→List D→List D
 | x::r,y::s=>.tup [x,y]::gW r s
 | _,_=>[]
theorem ip:∀(xs:List D) (k i:Nat),(fZ k xs)[i]?=(xs[i]?).map fun x=>.tup [.int ((k+i:Nat):Int),x]
 | [],k,i=>by simp [fZ]
 | x::r,k,0=>by simp [fZ]
 | x::r,k,i+1=>by
  show (fZ (k+1) r)[i]?=_
  rw [ip r (k+1) i]
  simp only [List.getElem?_cons_succ]
  congr 1
  funext y
  rw [show k+1+i=k+(i+1) by omega]
theorem cg:∀(xs:List D) (k:Nat),(fZ k xs).length=xs.length
 | [],_=>rfl
 | _::r,k=>by simp [fZ,cg r (k+1)]
theorem nz:∀(xs ys:List D) (i:Nat),(gW xs ys)[i]?=(xs[i]?).bind fun x=>(ys[i]?).map fun y=>.tup [x,y]
 | [],_,i=>by simp [gW]
 | _::_,[],i=>by simp [gW]
 | x::r,y::s,0=>by simp [gW]
 | x::r,y::s,i+1=>by
  show (gW r s)[i]?=_
  rw [nz r s i]
  simp
theorem ix:∀(xs ys:List D),(gW xs ys).length=min xs.length ys.length
 | [],_=>by simp [gW]
 | _::_,[]=>by simp [gW]
 | x::r,y::s=>by simp [gW,ix r s]
theorem SeqAt.sqB {K:PySem.W.Frag} {H:Hp} {a:Addr} {vs:List V} {b:Bool} (q:SeqAt K H a vs b):Sb.SqB b K H a vs:=by
 cases q with
 | l q=>exact q
 | t q=>exact q
theorem pC {ws ws':W} {h:MH} (hc:chk (ws++ws') h=true):chk ws h=true∧chk ws' h=true:=by
 induction ws with
 | nil=>exact ⟨rfl,hc⟩
 | cons x r ih=>
  obtain ⟨n,o⟩:=x
  simp only [List.cons_append,chk,Bool.and_eq_true] at hc ⊢
  obtain ⟨h1,h2⟩:=ih hc.2
  exact ⟨⟨hc.1,h1⟩,h2⟩
def jz (m:AM):IM:=fun δ h=>(m δ h).bind fun p=>match p.1 with
 | [d]=>(cH d p.2).map fun q=>(fZ 0 q.1,q.2,p.2)
 | _=>none
def xD (m:AM):IM:=fun δ h=>(m δ h).bind fun p=>match p.1 with
 | [d,e]=>(cH d p.2).bind fun q=>(cH e p.2).map fun r=>(gW q.1 r.1,q.2++r.2,p.2)
 | _=>none
section
variable {X:Cx} {es:List Expr} {k0:Nat} {tpos:Pos} {a b:Expr} {p pos:Pos} {m:AM}
theorem gB (hg:Gl X "enumerate") (hm:X.mg "enumerate"=none) (ha:SA X [a] m) (hl:iw m 1) (hs:starEach [a] X.env=[(false,eval a X.env)]:=by kernel_rfl):SI X (.Tuple es k0 tpos) (.Call (.Name "enumerate" p) [a] [] pos) (jz m):=
 (Sb.uN hg hm ha hs).imp fun σ H Q ⟨ρ,δ,h,xs,ws,h',R,S,e,k⟩=>by
  obtain ⟨⟨ds,h1⟩,e1,e2⟩:=bnd e
  refine ⟨ρ,δ,h,ds,h1,R,S,e1,fun vs ρ1 H1 T1 S1 r1=>?_⟩
  match ds,hl _ _ _ _ e1,e2,r1 with
  | [d],_,e2,r1=>
   obtain ⟨⟨ys,w⟩,e3,e4⟩:=mpd e2
   cases e4
   obtain ⟨v,rfl,rd⟩:=rep1 r1
   obtain ⟨a,rfl,⟨us,q,l⟩,st⟩:=fu S1 rd e3
   refine ⟨a,iN d,rfl,⟨us,q.sqB⟩,k _ ρ1 H1 T1 S1 ⟨fun ρ2 H2 h2 T2 S2 hc i=>?_⟩⟩
   obtain ⟨ws,l2,q2⟩:=st ρ2 H2 h2 T2 S2 hc
   refine ⟨fun hi=>⟨ws,q2.sqB,by rw [l2.length];rw [cg] at hi;exact hi⟩,fun x hx=>?_⟩
   rw [ip] at hx
   obtain ⟨y,ey,hx⟩:=mpd hx
   subst hx
   obtain ⟨v,ev,rv⟩:=l2.got ey
   refine ⟨⟨ws,v,q2.sqB,ev⟩,fun u H3 ⟨p,y',hp,hu,hH,hy⟩=>?_⟩
   subst hu;subst hH
   have hy':y'=v:=by have:=hy ws q2.sqB;rw [ev] at this;exact (Option.some.inj this).symm
   subst hy'
   refine ⟨Stp.laid S2 hp,S2.laid hp,.tup (.inl ⟨.inl aS,S2.fresh hp⟩) (.cons ?_ (.cons (rv.mono (Stp.laid S2 hp).toCh) .nil))⟩
   rw [Nat.zero_add]
   exact .int _
theorem vO (hg:Gl X "zip") (hm:X.mg "zip"=none) (ha:SA X [a,b] m) (hl:iw m 2) (hs:starEach [a,b] X.env=[(false,eval a X.env),(false,eval b X.env)]:=by kernel_rfl) (hs2:starEach [b] X.env=[(false,eval b X.env)]:=by kernel_rfl):
  SI X (.Tuple es k0 tpos) (.Call (.Name "zip" p) [a,b] [] pos) (xD m):=
 (Sb.wI hg hm ha hs hs2).imp fun σ H Q ⟨ρ,δ,h,xs,ws,h',R,S,e,k⟩=>by
  obtain ⟨⟨ds,h1⟩,e1,e2⟩:=bnd e
  refine ⟨ρ,δ,h,ds,h1,R,S,e1,fun vs ρ1 H1 T1 S1 r1=>?_⟩
  match ds,hl _ _ _ _ e1,e2,r1 with
  | [d,d'],_,e2,r1=>
   obtain ⟨⟨ys,w⟩,e3,e4⟩:=bnd e2
   obtain ⟨⟨zs,w'⟩,e5,e6⟩:=mpd e4
   cases e6
   obtain ⟨v,v',rfl,rd,rd'⟩:=rep2 r1
   obtain ⟨a,rfl,⟨us,q,l⟩,st⟩:=fu S1 rd e3
   obtain ⟨a',rfl,⟨us',q',l'⟩,st'⟩:=fu S1 rd' e5
   refine ⟨a,a',iN d,iN d',rfl,⟨us,q.sqB⟩,⟨us',q'.sqB⟩,k _ ρ1 H1 T1 S1 ⟨fun ρ2 H2 h2 T2 S2 hc i=>?_⟩⟩
   obtain ⟨c1,c2⟩:=pC hc
   obtain ⟨ws,l2,q2⟩:=st ρ2 H2 h2 T2 S2 c1
   obtain ⟨ws',l2',q2'⟩:=st' ρ2 H2 h2 T2 S2 c2
   refine ⟨fun hi=>⟨ws,ws',q2.sqB,q2'.sqB,by rw [l2.length,l2'.length];rw [ix] at hi;dsimp only at hi;omega⟩,fun x hx=>?_⟩
   rw [nz] at hx
   obtain ⟨y,ey,hx⟩:=bnd hx
   obtain ⟨y',ey',hx⟩:=mpd hx
   subst hx
   obtain ⟨v,ev,rv⟩:=l2.got ey
   obtain ⟨v',ev',rv'⟩:=l2'.got ey'
   refine ⟨⟨ws,ws',v,v',q2.sqB,q2'.sqB,ev,ev'⟩,fun u H3 ⟨p,x1,x2,hp,hu,hH,hy1,hy2⟩=>?_⟩
   subst hu;subst hH
   have z1:x1=v:=by have:=hy1 ws q2.sqB;rw [ev] at this;exact (Option.some.inj this).symm
   have z2:x2=v':=by have:=hy2 ws' q2'.sqB;rw [ev'] at this;exact (Option.some.inj this).symm
   subst z1;subst z2
   exact ⟨Stp.laid S2 hp,S2.laid hp,.tup (.inl ⟨.inl aS,S2.fresh hp⟩) (.cons (rv.mono (Stp.laid S2 hp).toCh) (.cons (rv'.mono (Stp.laid S2 hp).toCh) .nil))⟩
end
end Sm
namespace Sm
open PySem L2 PySem.Spec PyProof.Rows
def mM (ls:List (Key×D)):List (Key×D)→Option Bool
 | []=>some true
 | (k,v)::r=>match lI ls k with
  | none=>some false
  | some u=>(pyD v).bind fun a=>(pyD u).bind fun b=>if a.depth≤60∧b.depth≤60 then (mM ls r).map fun c=>PyData.eqv a b&&c else none
def tE (ks ls:List (Key×D)):Option Bool:=if ks.length=ls.length then mM ls ks else some false
def eqA (d e:D) (h:MH):Option Bool:=match df d h,df e h with
 | some ks,some ls=>tE ks ls
 | _,_=>eqD d e h
def de (d e:D) (h:MH):Option (D×MH):=(eqA d e h).map fun c=>(.bl c,h)
def fJ (d e:D) (h:MH):Option (D×MH):=(eqA d e h).map fun c=>(.bl (!c),h)
section
variable {X:Cx}
theorem pZ {pins:List (Addr×Obj)} {σ:L2.St} {H:Hp} {s:Shared} {ρ:Ad} (hu:X.A.units+64 < cLine) (I:L2.Inv X pins σ H s) {vs:List (Key×V)} {ls:List (Key×D)} {kb:List (Key×Value)} (lb:RepK X.K ρ H vs ls) (rb:KV vs kb):
  ∀{us:List (Key×V)} {ks:List (Key×D)} {ka:List (Key×Value)} {c:Bool},RepK X.K ρ H us ks→KV us ka→mM ls ks=some c→PySem.W.KeqHits X.A.in1 s kb ka c
 | _,_,_,c,.nil,ra,e=>by
  cases ra
  cases e
  exact .nil
 | _,_,_,c,.cons (k:=k) (v:=v) (d:=d) r l,ra,e=>by
  cases ra with
  | cons ra rr=>
   rename_i p ka
   obtain ⟨k',y⟩:=p
   obtain ⟨ek,ry⟩:=ra
   dsimp only at ek ry
   subst ek
   simp only [mM] at e
   have rel:=rb.val k
   rcases lb.val k with ⟨h1,h2⟩ | ⟨d',v',h1,h2,r'⟩
   ·rw [h1] at e
    cases e
    rw [h2] at rel
    refine .miss ?_
    cases q:valueAt kb k with
    | none=>rfl
    | some _=>rw [q] at rel;exact rel.elim
   ·rw [h1] at e
    obtain ⟨a,e1,e⟩:=bnd e
    obtain ⟨b,e2,e⟩:=bnd e
    by_cases z:a.depth≤60∧b.depth≤60
    ·rw [if_pos z] at e
     obtain ⟨c',e3,e4⟩:=mpd e
     subst e4
     rw [h2] at rel
     cases q:valueAt kb k with
     | none=>rw [q] at rel;exact rel.elim
     | some y'=>
      rw [q] at rel
      obtain ⟨r1,c1⟩:=r.rds e1
      obtain ⟨r2,c2⟩:=r'.rds e2
      obtain ⟨as,ra1⟩:=r1.reads I ry
      obtain ⟨bs,ra2⟩:=r2.reads I rel
      refine .hit q (PySem.SeqAt.eqAt_reads a b _ s y y' as bs ra1 ra2 c1 c2 ?_) (pZ hu I lb rb l rr e3)
      have:min a.depth b.depth≤a.depth:=Nat.min_le_left _ _
      show X.A.units+1+min a.depth b.depth < cLine
      omega
    ·rw [if_neg z] at e;cases e
theorem tq {pins:List (Addr×Obj)} {σ:L2.St} {H:Hp} {s:Shared} {ρ:Ad} {h:MH} {x y:V} {v u:Value} {d e:D} {c:Bool} (hu:X.A.units+64 < cLine) (I:L2.Inv X pins σ H s) (rx:L2.RelV x v) (ry:L2.RelV y u) (S:Sim X.K ρ h H) (rd:Rep X.K ρ H x d) (re:Rep X.K ρ H y e) (ee:eqA d e h=some c):
  (∀Q:Value→Shared→Prop,Q (.bool c) s→wpAny (model X.prog X.w) X.A (compareOp .Eq v u) Q X.xe s)∧∀Q:Value→Shared→Prop,Q (.bool (!c)) s→wpAny (model X.prog X.w) X.A (compareOp .NotEq v u) Q X.xe s:=by
 have data:eqD d e h=some c→(∀Q:Value→Shared→Prop,Q (.bool c) s→wpAny (model X.prog X.w) X.A (compareOp .Eq v u) Q X.xe s)∧∀Q:Value→Shared→Prop,Q (.bool (!c)) s→wpAny (model X.prog X.w) X.A (compareOp .NotEq v u) Q X.xe s:=by
  intro ee
  obtain ⟨a,e3,e4⟩:=bnd ee
  obtain ⟨b,e5,e6⟩:=bnd e4
  by_cases w:a.depth≤64∧b.depth≤64
  ·rw [if_pos w] at e6;cases e6
   obtain ⟨r1,c1⟩:=l9 S rd e3
   obtain ⟨r2,c2⟩:=l9 S re e5
   obtain ⟨as,ra⟩:=r1.reads I rx
   obtain ⟨bs,rb⟩:=r2.reads I ry
   exact ⟨fun Q q=>eq_dataH ra rb (fV c1 w.1) (fV c2 w.2) hu q,fun Q q=>ne_dataH ra rb (fV c1 w.1) (fV c2 w.2) hu q⟩
  ·rw [if_neg w] at e6;cases e6
 unfold eqA at ee
 cases q1:df d h with
 | none=>rw [q1] at ee;exact data ee
 | some ks=>
  cases q2:df e h with
  | none=>rw [q1,q2] at ee;exact data ee
  | some ls=>
   rw [q1,q2] at ee
   obtain ⟨a,us,rfl,ha,la⟩:=gP S rd q1
   obtain ⟨b,ws,rfl,hb,lb⟩:=gP S re q2
   obtain rfl:v=Value.ref a:=rx
   obtain rfl:u=Value.ref b:=ry
   obtain ⟨_,na,ka,ra,da⟩:=p4 I.hok ha
   obtain ⟨_,nb,kb,rb,db⟩:=p4 I.hok hb
   have l1:ka.length=ks.length:=by rw [←la.length];exact (Paired.length ra).symm
   have l2:kb.length=ls.length:=by rw [←lb.length];exact (Paired.length rb).symm
   dsimp only [tE] at ee
   by_cases z:ks.length=ls.length
   ·rw [if_pos z] at ee
    have hits:=pZ hu I lb rb la ra ee
    have ez:(ka.length==kb.length&&c)=c:=by rw [l1,l2,z,beq_self_eq_true,Bool.true_and]
    exact ⟨fun Q q=>PySem.W.keq_eq na nb da db (by omega) (fun _=>hits) (by rw [ez];exact q),fun Q q=>PySem.W.keq_ne na nb da db (by omega) (fun _=>hits) (by rw [ez];exact q)⟩
   ·rw [if_neg z] at ee
    cases ee
    have ez:(ka.length==kb.length&&false)=false:=Bool.and_false _
    have nh:ka.length=kb.length→PySem.W.KeqHits X.A.in1 s kb ka false:=fun q=>absurd (by rw [←l1,←l2];exact q) z
    exact ⟨fun Q q=>PySem.W.keq_eq na nb da db (by omega) nh (by rw [ez];exact q),fun Q q=>PySem.W.keq_ne na nb da db (by omega) nh (by rw [ez];exact q)⟩
theorem bX (hu:X.A.units+64 < cLine):OpS X (compareOp .Eq) de:=by
 intro pins s σ H x y v u Q I rx ry hh
 obtain ⟨ρ,h,d,e,z,h',S,rd,re,ee,k⟩:=hh
 obtain ⟨c,e1,e2⟩:=mpd ee
 cases e2
 exact (tq hu I rx ry S rd re e1).1 _ ⟨.bl _,H,I,rfl,k _ _ (.here S (.bl _))⟩
theorem ju (hu:X.A.units+64 < cLine):OpS X (compareOp .NotEq) fJ:=by
 intro pins s σ H x y v u Q I rx ry hh
 obtain ⟨ρ,h,d,e,z,h',S,rd,re,ee,k⟩:=hh
 obtain ⟨c,e1,e2⟩:=mpd ee
 cases e2
 exact (tq hu I rx ry S rd re e1).2 _ ⟨.bl _,H,I,rfl,k _ _ (.here S (.bl _))⟩
def oV (acc:List (Key×D)) (ps:List (Key×D)):List (Key×D):=ps.foldl (fun a p=>putD a p.1 p.2) acc
theorem RepK.merge {K:PySem.W.Frag} {ρ:Ad} {H:Hp}:∀{kvs:List (Key×V)} {ps:List (Key×D)} {acc:List (Key×V)} {ac:List (Key×D)},RepK K ρ H acc ac→RepK K ρ H kvs ps→RepK K ρ H (dW acc kvs) (oV ac ps)
 | _,_,_,_,a,.nil=>a
 | _,_,acc,ac,a,.cons (k:=k) (v:=v) (d:=d) r l=>RepK.merge (acc:=putK acc k v) (ac:=putD ac k d) (a.put r) l
end
end Sm
namespace Sm
open PySem L2 PySem.Spec PyProof.Rows
theorem iY:bootBuiltins "list"=some (.type "list"):=by decide+kernel
theorem cn:bootBuiltins "tuple"=some (.type "tuple"):=by decide+kernel
theorem ni:bootBuiltins "bool"=some (.type "bool"):=by decide+kernel
theorem ng:bootBuiltins "int"=some (.type "int"):=by decide+kernel
theorem tU:bootBuiltins "str"=some (.type "str"):=by decide+kernel
theorem cR:bootBuiltins "len"=some (.builtin "len"):=by decide+kernel
theorem tV:bootBuiltins "abs"=some (.builtin "abs"):=by decide+kernel
theorem bz:bootBuiltins "isinstance"=some (.builtin "isinstance"):=by decide+kernel
theorem xQ:bootBuiltins "all"=some (.builtin "all"):=by decide+kernel
def vE (sc:Scope) (x:Str):Bool:=match sc.names.lookup x with
 | some .local=>true
 | some .cell=>true
 | some .free=>true
 | _=>false
def uY (sc:Scope) (x:Str):Bool:=match sc.names.lookup x with
 | some .local=>true
 | some .cell=>true
 | _=>false
def fnB (X:Cx) (x:Str):Bool:=X.fn x||(match X.env.scope.names.lookup x with
 | some .local=>true
 | _=>false)
theorem vD {sc:Scope} {x:Str} (h:vE sc x=true):Vis sc x:=by
 unfold vE at h
 split at h <;> first | (cases h;done) | skip
 ·exact .inl ‹_›
 ·exact .inr (.inl ‹_›)
 ·exact .inr (.inr ‹_›)
theorem sN {sc:Scope} {x:Str} (h:uY sc x=true):Loc sc x:=by
 unfold uY at h
 split at h <;> first | (cases h;done) | skip
 ·exact .inl ‹_›
 ·exact .inr ‹_›
theorem sT {X:Cx} {x:Str} (h:fnB X x=true):X.fn x=true∨X.env.scope.names.lookup x=some .local:=by
 unfold fnB at h
 rw [Bool.or_eq_true] at h
 rcases h with h | h
 ·exact .inl h
 ·split at h
  ·exact .inr ‹_›
  ·cases h
section
variable {X:Cx} {pos:Pos}
theorem sv (i:Nat) {x:Str} (hN:X.N[i]?=some x:=by kernel_rfl) (hv:vE X.env.scope x=true:=by kernel_rfl) (hd:(x==("__debug__":Str))=false:=by kernel_rfl)
  (hcd:(x==("__classdict__":Str))=false:=by kernel_rfl):SE X (.Name x pos) (af i):=vQ hN (vD hv) hd hcd
theorem sset (i:Nat) {x:Str} {pos':Pos} {e:Expr} {ma:EM} (hN:X.N.Nodup) (he:SE X e ma) (hi:X.N[i]?=some x:=by kernel_rfl) (hx:uY X.env.scope x=true:=by kernel_rfl) (hs:swapsWith e (some (.Name x pos')) pos.line X.env=pure false:=by kernel_rfl)
  (hf:fnB X x=true:=by kernel_rfl):SS X (.Assign [.Name x pos'] e pos) (bc i ma):=vK hN hi (sN hx) he hs (sT hf)
theorem sgn (i:Nat) {x:Str} (hN:X.N.Nodup) (hi:X.N[i]?=some x:=by kernel_rfl) (hx:uY X.env.scope x=true:=by kernel_rfl) (hf:fnB X x=true:=by kernel_rfl):SG X (.Name x pos) (gN i):=ug hN hi (sN hx) (sT hf)
def rQ (i j:Nat) (m:AM):SM:=fun δ h=>(m δ h).bind fun p=>match p.1 with
 | [a,b]=>some (.nx,(δ.set i (some a)).set j (some b),p.2)
 | _=>none
theorem vL (i j:Nat) {x y:Str} {a b:Expr} {m:AM} {px py pt:Pos} {kt k2 pt2} (hN:X.N.Nodup) (hl:iw m 2) (hc:X.calm=true) (hij:i≠j) (P:PS X (.Assign [.Tuple [.Name x px,.Name y py] kt pt] (.Tuple [a,b] k2 pt2) pos) (yj i j (tMA X.K m))):
  SS X (.Assign [.Tuple [.Name x px,.Name y py] kt pt] (.Tuple [a,b] k2 pt2) pos) (rQ i j m):=P.imp fun E σ H ⟨ρ,δ,h,fl,δ',h',R,S,e,k⟩=>by
 obtain ⟨⟨ds,h1⟩,e1,e2⟩:=bnd e
 refine ⟨ρ,δ,h,ds,h1,R,S,e1,fun vs ρ1 H1 T1 S1 r1=>?_⟩
 match ds,hl _ _ _ _ e1,e2,r1 with
 | [d,d'],_,e2,r1=>
  cases e2
  obtain ⟨v,u,rfl,rd,rd'⟩:=rep2 r1
  exact ⟨v,u,rfl,k ρ1 H1 T1 S1 _ (((R.mono T1.toCh).set rd i).set rd' j)⟩
structure Df (P:Program) (w:World) (K:PySem.W.Frag) (mg:Str→Option Value) (base:Heap) (nm:Str) (k:Nat) (ps:List Str) (n:Nat) (F:Fn):Prop where
 ex:∃(f:Addr) (fd:FuncData),FnOk P w K mg base CX0 k f fd ps (spF K n F)∧PySem.W.keepIn K (.ref f)=true∧Binds K fd ps []∧mg nm=some (.ref f)
theorem az {nm:Str} {k k' n:Nat} {ps:List Str} {F:Fn} {e:Expr} {es:List Expr} {p:Pos} {m:AM} (d:Df X.prog X.w X.K X.mg X.base nm k ps n F) (hr:Room k' X.A) (hk:k≤k') (ha:SA X (e::es) m) (hl:iw m n) (hg:Gl X nm:=by unfold Gl;kernel_rfl) (hdb:(nm==("__debug__":Str))=false:=by kernel_rfl)
  (he:starEach (e::es) X.env=(false,eval e X.env)::starEach es X.env:=by kernel_rfl) (hpl:(backTo pos (starEach es X.env)).any (·.1)=false:=by kernel_rfl):SE X (.Call (.Name nm p) (e::es) [] pos) (eFn F m):=by
 obtain ⟨f,fd,G,kf,bf,mf⟩:=d.ex
 exact um G (hr.mono hk) hg mf kf bf ha hl hdb he hpl
theorem fT {P:Program} {w:World} {K:PySem.W.Frag} {mg:Str→Option Value} {base:Heap} {k n:Nat} {f:Addr} {fd:FuncData} {ps:List Str}:FnOk P w K mg base CX0 k f fd ps (spF K n fun _ _=>none):=
 ⟨fun vs H Q E hh=>(by obtain ⟨_,_,_,_,_,_,_,_,e,_⟩:=hh;cases e),fun A outer s H args us vs Q E _ _ _ _ hh=>(by obtain ⟨_,_,_,_,_,_,_,_,e,_⟩:=hh;cases e)⟩
end
end Sm
namespace L2
open PySem PySem.Spec PyProof.Rows
section
variable {B:Cx} {e:Expr} {d:Nat} {tg:Expr} {ifs:List Expr} {act:Sem Unit} {p:Pos} {it:Addr} {acc:Value} {g:TG} {tc:TT} {tm:TK}
end
end L2
namespace L2
open PySem PySem.Spec PyProof.Rows
section
variable {X:Cx} {N':List Str} {caps:List (Option Nat)} {scope:Scope} {e tg iter:Expr} {ifs:List Expr} {p:Pos} {wi:TI} {g:TG} {tc:TT} {tm:Addr→TK} {o:Addr→HO} {na:Sem Value} {act:Addr→Env→Sem Unit}
end
end L2
namespace Sm
open PySem L2 PySem.Spec PyProof.Rows
structure Ac (α:Type) where
 at_:PySem.W.Frag→Ad→Hp→Addr→α→Prop
 mono:∀{K:PySem.W.Frag} {ρ ρ':Ad} {H H':Hp} {l:Addr} {a:α},at_ K ρ H l a→Ch ρ H ρ' H'→H' l=H l→at_ K ρ' H' l a
abbrev MK (α:Type):=DS→MH→α→Option (DS×MH×α)
section
variable {α:Type} {K:PySem.W.Frag} {A:Ac α} {l:Addr} {g:GM} {mt:TM} {m:MK α}
end
section
variable {α:Type} {X:Cx} {A:Ac α} {g:GM} {mt:TM} {m:MK α} {mi:IM} {e tg iter:Expr} {ifs:List Expr} {d:Nat} {p:Pos} {act:Addr→Env→Sem Unit}
end
end Sm
namespace L2
open PySem PySem.Spec PyProof.Rows
section
variable {P:Program} {w:World} {A:Around} {E:Value→Shared→Prop} {s:Shared} {a:Addr} {ks:List Str} {x:Str} {u:Tok}
end
end L2
namespace L2
open PySem PySem.Spec PyProof.Rows
section
variable {P:Program} {w:World} {A:Around} {E:Value→Shared→Prop} {s:Shared} {a:Addr} {ks:List Str}
end
end L2
namespace L2
open PySem PySem.Spec PyProof.Rows
section
variable {P:Program} {w:World} {A:Around} {E:Value→Shared→Prop} {s:Shared} {a:Addr} {ks:List Str}
end
end L2
namespace L2
open PySem PySem.Spec PyProof.Rows
def leT (a b:Str):Bool:=!ltCps b.cps.toList a.cps.toList
theorem fb {a b:Str}:leT a b=true↔strKind.kle a.cps.toList b.cps.toList:=by
 unfold leT KeyOrd.kle
 rw [ltCps_eq]
 simp
theorem kT (a b c:Str) (h1:leT a b=true) (h2:leT b c=true):leT a c=true:=fb.mpr (KeyOrd.kle_trans (fb.mp h1) (fb.mp h2))
theorem qF (a b:Str):(leT a b||leT b a)=true:=by
 rw [Bool.or_eq_true]
 by_cases z:strKind.klt b.cps.toList a.cps.toList
 ·exact .inr (fb.mpr (KeyOrd.kle_of_klt z))
 ·exact .inl (fb.mpr (KeyOrd.kle_of_not_klt z))
theorem sO (a b:Str) (h1:leT a b=true) (h2:leT b a=true):a=b:=by
 have:=KeyOrd.kle_antisymm (fb.mp h1) (fb.mp h2)
 cases a;cases b
 congr 1
 exact Array.toList_inj.mp this
def ff (ks:List Str):List Str:=ks.mergeSort leT
theorem gc (ks:List Str):(ff ks).Perm ks:=List.mergeSort_perm _ _
theorem lM (ks:List Str):(ff ks).Pairwise fun a b=>leT a b=true:=List.pairwise_mergeSort kT qF ks
theorem kJ:∀(l:List Str) (p:Str),risingS p l=true→(p::l).Pairwise fun a b=>leT a b=true
 | [],p,_=>by simp
 | x::r,p,h=>by
  have h':(!ltCps x.cps.toList p.cps.toList&&risingS x r)=true:=h
  rw [Bool.and_eq_true] at h'
  have ih:=kJ r x h'.2
  refine List.pairwise_cons.mpr ⟨fun y hy=>?_,ih⟩
  rcases List.mem_cons.mp hy with rfl | hy
  ·exact h'.1
  ·exact kT _ _ _ h'.1 ((List.pairwise_cons.mp ih).1 y hy)
theorem rJ {ss ks:List Str} (hp:ss.Perm ks) (h:sortedS ss=true):ss=ff ks:=by
 refine List.Perm.eq_of_pairwise (fun a b _ _=>sO a b) ?_ (lM ks) (hp.trans (gc ks).symm)
 match ss,h with
 | [],_=>exact .nil
 | x::r,h=>exact kJ r x h
section
variable {P:Program} {w:World} {A:Around} {E:Value→Shared→Prop} {s:Shared} {a:Addr} {ks:List Str}
end
end L2
namespace L2
open PySem PySem.Spec PyProof.Rows
section
variable {B:Cx} {elt k v:Expr} {te tk tv:TE} {l:Addr}
end
end L2
namespace Sm
open PySem L2 PySem.Spec PyProof.Rows
section
variable {X:Cx} {elt k v:Expr} {me mk mv:EM}
theorem RepK.len {K:PySem.W.Frag} {ρ:Ad} {H:Hp}:∀{us:List (Key×V)} {ks:List (Key×D)},RepK K ρ H us ks→us.length=ks.length
 | _,_,.nil=>rfl
 | _,_,.cons _ r=>by rw [List.length_cons,List.length_cons,r.len]
end
end Sm
namespace L2
open PySem PySem.Spec PyProof.Rows
theorem ko:∀{us:List Value} {ss:List Str},StrsAre us ss→Vals (ss.map V.str) us
 | _,_,.nil=>.nil
 | _,_,.cons x t r=>.cons ⟨t,rfl⟩ (ko r)
end L2
namespace Sm
open PySem L2 PySem.Spec PyProof.Rows
section
variable {α:Type} {K:PySem.W.Frag} {A:Ac α} {g:GM} {mt:TM} {m:MK α}
end
section
variable {X:Cx} {k v tg iter elt tg2 iter2:Expr} {pos:Pos} {mk mv me:EM} {mt mt2:TM} {g g2:GM} {N':List Str} {caps:List (Option Nat)} {scope:Scope} {ifs ifs2:List Expr} {mi mi2:IM}
theorem kF {K:PySem.W.Frag} {ρ:Ad} {H:Hp}:∀(ss:List Str),(∀k∈ss,PyData.strOk k=true)→RepL K ρ H (ss.map V.str) (ss.map D.str)
 | [],_=>.nil
 | x::r,h=>.cons (.str (h x List.mem_cons_self)) (kF r fun k hk=>h k (List.mem_cons_of_mem _ hk))
end
end Sm
namespace L2
open PySem PySem.Spec PyProof.Rows
theorem nO (its:List Value):slicePick its.toArray none none (some (-1))=its.reverse.toArray:=by
 unfold slicePick
 congr 1
 have hb:sliceBounds none none (some (-1)) its.toArray.size=((its.length:Int)-1,-1,-1):=by
  unfold sliceBounds
  simp
 rw [hb]
 dsimp only
 have hr:sliceRange ((its.length:Int)-1) (-1) (-1)=(List.range its.length).map fun k=>its.length-1-k:=by
  unfold sliceRange
  dsimp only
  rw [if_neg (by decide)]
  have hc:(if (its.length:Int)-1 > -1 then ((its.length:Int)-1 - -1 - -1-1) / (- -1) else 0)=(its.length:Int):=by
   split
   ·simp
   ·omega
  rw [hc,Int.toNat_natCast]
  refine List.map_congr_left fun k hk=>?_
  have:=List.mem_range.mp hk
  omega
 rw [hr]
 refine List.ext_getElem? fun i=>?_
 rw [List.filterMap_map]
 have hall:∀k∈List.range its.length,((fun x=>its.toArray[x]?)∘fun k=>its.length-1-k) k=some (its.getD (its.length-1-k) .none):=fun k hk=>by
  have:=List.mem_range.mp hk
  show its.toArray[its.length-1-k]?=_
  rw [List.getElem?_toArray,List.getD_eq_getElem?_getD,List.getElem?_eq_getElem (by omega)]
  rfl
 have hm:∀l:List Nat,(∀k∈l,((fun x=>its.toArray[x]?)∘fun k=>its.length-1-k) k=some (its.getD (its.length-1-k) .none))→l.filterMap ((fun x=>its.toArray[x]?)∘fun k=>its.length-1-k)=l.map fun k=>its.getD (its.length-1-k) .none:=by
  intro l
  induction l with
  | nil=>intro _;rfl
  | cons k r ih=>intro h;rw [List.filterMap_cons,h k List.mem_cons_self,List.map_cons,ih fun x hx=>h x (List.mem_cons_of_mem _ hx)]
 rw [hm _ hall,List.getElem?_map]
 by_cases z:i < its.length
 ·rw [List.getElem?_range z,List.getElem?_reverse z]
  simp only [Option.map]
  rw [List.getD_eq_getElem?_getD,List.getElem?_eq_getElem (by omega)]
  rfl
 ·rw [List.getElem?_eq_none (by simpa using z),List.getElem?_eq_none (by simpa using z)]
  rfl
theorem kq:∀{xs:List V} {us:List Value} {x:V} {u:Value},Vals xs us→RelV x u→Vals (xs++[x]) (us++[u])
 | _,_,_,_,.nil,r=>.cons r .nil
 | _,_,_,_,.cons r l,r'=>.cons r (kq l r')
theorem i5:∀{xs:List V} {us:List Value},Vals xs us→Vals xs.reverse us.reverse
 | _,_,.nil=>.nil
 | _,_,.cons r l=>by
  rw [List.reverse_cons,List.reverse_cons]
  exact kq (i5 l) r
section
variable {X:Cx} {e st:Expr} {te ts:TE} {pos p2:Pos}
end
end L2
namespace Sm
open PySem L2 PySem.Spec PyProof.Rows
section
variable {X:Cx} {e st a b c:Expr} {ma ms mb mc:EM} {pos p2:Pos}
theorem RepL.rev {K:PySem.W.Frag} {ρ:Ad} {H:Hp}:∀{vs:List V} {ds:List D},RepL K ρ H vs ds→RepL K ρ H vs.reverse ds.reverse
 | _,_,.nil=>.nil
 | _,_,.cons r l=>by rw [List.reverse_cons,List.reverse_cons];exact (RepL.rev l).snoc r
abbrev PrM:=DS→MH→Option (List (Key×D)×MH)
def sC:PrM:=fun _ h=>some ([],h)
def bM (k v:EM) (r:PrM):PrM:=fun δ h=>(k δ h).bind fun p=>(v δ p.2).bind fun q=>(qI p.1).bind fun kk=>(r δ q.2).map fun z=>((kk,q.1)::z.1,z.2)
inductive TPri (K:PySem.W.Frag) (m:PrM) (σ:L2.St) (H:Hp) (Q:List (V×V)→Hp→Prop):Prop where
 | mk (ρ δ h kvs h'):RepS K ρ H σ δ→Sim K ρ h H→(m δ h=some (kvs,h'))→(∀us ρ' H',Stp ρ H ρ' H'→Sim K ρ' h' H'→RepK K ρ' H' us kvs→Q (us.map fun kv=>(kV kv.1,kv.2)) H')→TPri K m σ H Q
def tPr (K:PySem.W.Frag) (m:PrM):L2.St→Hp→(List (V×V)→Hp→Prop)→Prop:=fun σ H Q=>TPri K m σ H Q
def SP (X:Cx) (pos:Pos) (keys:List (Option Expr)) (vals:List Expr) (m:PrM):Prop:=∃trs,PPs X pos keys vals trs∧∀σ H Q,tPr X.K m σ H Q→lJ trs σ H Q
theorem rG:SP X pos [] [] sC:=⟨[],uI,fun σ H Q ⟨ρ,δ,h,kvs,h',R,S,e,k⟩=>by
 cases e
 exact k [] ρ H (.refl _ _) S .nil⟩
theorem cv {kx vx:Expr} {ks:List (Option Expr)} {vs:List Expr} {mk mv:EM} {m:PrM} (hk:SE X kx mk) (hv:SE X vx mv) (hr:SP X pos ks vs m):SP X pos (some kx::ks) (vx::vs) (bM mk mv m):=by
 obtain ⟨trs,h1,h2⟩:=hr
 refine ⟨_,sk hk hv h1,fun σ H Q ⟨ρ,δ,h,kvs,h',R,S,ee,k⟩=>?_⟩
 obtain ⟨⟨x,ha⟩,e1,e2⟩:=bnd ee
 obtain ⟨⟨y,hb⟩,e3,e4⟩:=bnd e2
 obtain ⟨kk,e5,e6⟩:=bnd e4
 obtain ⟨⟨zs,hz⟩,e7,e8⟩:=mpd e6
 cases e8
 refine ⟨ρ,δ,h,x,ha,R,S,e1,fun v H1 ⟨ρ1,T1,S1,r1⟩=>⟨ρ1,δ,ha,y,hb,R.mono T1.toCh,S1,e3,fun u H2 ⟨ρ2,T2,S2,r2⟩=>?_⟩⟩
 refine h2 σ H2 _ ⟨ρ2,δ,hb,zs,_,(R.mono T1.toCh).mono T2.toCh,S2,e7,fun us ρ3 H3 T3 S3 r3=>?_⟩
 have ek:=iW r1 e5
 subst ek
 exact k ((kk,u)::us) ρ3 H3 ((T1.trans T2).trans T3) S3 (.cons (r2.mono T3.toCh) r3)
def tw (m:PrM):EM:=fun δ h=>(m δ h).bind fun p=>if p.1.length≤15 then some (.dv (oV [] p.1),p.2) else none
theorem uh {keys:List (Option Expr)} {vals:List Expr} {m:PrM} (h:SP X pos keys vals m) (hall:keys.all (·.isSome)=true) (hl:keys.length=vals.length) (h0:keys≠[]) (hp:∀trs,PPs X pos keys vals trs→PE X (.Dict keys vals pos) (rA trs)):SE X (.Dict keys vals pos) (tw m):=by
 obtain ⟨trs,h1,h2⟩:=h
 refine (hp trs h1).imp fun σ H Q ⟨ρ,δ,h,d,h',R,S,ee,k⟩ p hpn=>?_
 obtain ⟨⟨kvs,ha⟩,e1,e2⟩:=bnd ee
 dsimp only at e2
 by_cases z:kvs.length≤15
 ·rw [if_pos z] at e2
  cases e2
  have Tl:Ch ρ H (ρ.keep p) (upd H p (.dK [])):=Ch.keep hpn
  have nl:¬ρ.has p:=S.fresh hpn
  refine h2 σ _ _ ⟨ρ.keep p,δ,h,kvs,_,R.mono Tl,S.keep hpn,e1,fun us ρ2 H2 T2 S2 r2=>?_⟩
  have hp2:H2 p=some (.dK []):=(T2.res p List.mem_cons_self).trans aS
  refine ⟨hp2,us,rfl,by rw [r2.len];exact z,?_⟩
  obtain ⟨ob2,rs2⟩:=ρ2
  have ers:rs2=p::ρ.rs:=T2.rs
  subst ers
  have hml:p∈(⟨ob2,p::ρ.rs⟩:Ad).rs:=List.mem_cons_self
  have hsub:∀b∈ρ.rs,b∈p::ρ.rs:=fun b hb=>List.mem_cons_of_mem _ hb
  have hne:∀b∈ρ.rs,b≠p:=fun b hb z=>nl (.inr (z ▸ hb))
  have Cp:Ch ⟨ob2,p::ρ.rs⟩ H2 ⟨ob2,p::ρ.rs⟩ (upd H2 p (.dK (dW [] us))):=Ch.put hml
  have C2:Ch ⟨ob2,p::ρ.rs⟩ (upd H2 p (.dK (dW [] us))) ⟨ob2,ρ.rs⟩ (upd H2 p (.dK (dW [] us))):=Ch.free hsub
  refine k _ _ ⟨⟨ob2,ρ.rs⟩,⟨((Tl.trans T2.toCh).trans Cp).trans C2,rfl,fun b hb=>?_⟩,(S2.put hml).free hsub,.dv aS (fun z=>?_) ((RepK.merge .nil r2).mono (Cp.trans C2))⟩
  ·show upd H2 p _ b=H b
   rw [aD (hne b hb),T2.res b (hsub b hb)]
   exact aD (hne b hb)
  ·rcases z with z | z
   ·exact (S2.rsv p List.mem_cons_self).2 z
   ·exact nl (.inr z)
 ·rw [if_neg z] at e2;cases e2
end
end Sm
namespace L2
open PySem PySem.Spec PyProof.Rows
section
variable {prog:Program} {w:World} {A:Around} {E:Value→Shared→Prop} {s:Shared}
open HT in
theorem qg {t sl:Addr} {items:Array Value} {vl vu:Value} {lo hi:Option Int} {Q:Value→Shared→Prop} (ht:IsTup s.heap t items) (hs:s.heap.IsSliceOf sl vl vu .none) (pl:IsPart vl lo) (pu:IsPart vu hi)
  (hw:sIx items.size 0 lo=0∧sIx items.size items.size hi=items.size) (h:Q (.ref t) s):wpAny (model prog w) A (getItem (.ref t) (.ref sl)) Q E s:=by
 obtain ⟨os,hos,hcs,hds⟩:=id hs
 have hTs:s.TypeIs (.ref sl) "slice":=⟨os,hos,hcs⟩
 unfold getItem
 try with_reducible refine wpAny_holding ?_
 first | refine wpAny_bind (wpAny_pure ?_) | skip
 refine wpAny_bind (wpAny_sequenceKey ht.typeIs (by decide) ?_)
 refine wpAny_bind (wpAny_callSpecial?_slot (name:=Str.ofString "__getitem__") ht.typeIs PyProof.Rows.slot_tuple_getitem (wpAny_call_entry PyProof.Rows.slot_tuple_getitem ht.typeIs entry_tuple_getitem ?_ (args_tuple_getitem _ _)))
 show wpAny _ _ (Builtin.Tuple.tupleItemsOf (.ref t) >>=_) _ _ s
 refine wpAny_bind (tupleItemsOf_ ht (wpAny_bind (wpAny_typeOf hTs ?_)))
 rw [if_pos (by decide)]
 refine wpAny_bind (eC hs pl pu ?_)
 show wpAny _ _ (if (((sIx items.size 0 lo:Nat):Int)==0&&(1:Int)==1&&(sIx items.size items.size hi-sIx items.size 0 lo)==items.size)=true then _ else _) _ _ s
 rw [if_pos (by rw [hw.1,hw.2];simp)]
 unfold Builtin.Tuple.tupleIsExact
 simp only [bind_assoc,pure_bind]
 refine wpAny_bind (wpAny_typeOf ht.typeIs ?_)
 rw [if_pos (by decide)]
 first
  | exact wpAny_bind (wpAny_rule (wpAny_pure ⟨_,rfl,wpAny_pure h⟩))
  | exact wpAny_bind (wpAny_rule (wpAny_bind (wpAny_pure (wpAny_pure ⟨_,rfl,wpAny_pure h⟩))))
end
section
variable {X:Cx}
def zH (K:PySem.W.Frag):V→Option Int→Option Int→Hp→VK→Prop:=fun x lo hi H Q=>∃a xs,x=.ref a∧SqT K H a xs∧(HT.sIx xs.length 0 lo=0∧HT.sIx xs.length xs.length hi=xs.length)∧Q (.ref a) H
theorem rL:SlR X (zH X.K):=by
 intro pins s σ H x v vl vu lo hi sl Q I rx hs pl pu h
 obtain ⟨a,xs,rfl,hx,hw,q⟩:=h
 cases rx
 obtain ⟨its,r,ht,hz⟩:=I.tuple hx
 have hlen:its.toArray.size=xs.length:=by rw [List.size_toArray];exact r.length.symm
 exact ⟨"tuple",_,PyProof.Rows.slot_tuple_getitem.lookup,ht.typeIs,qg ht hs pl pu (by rw [hlen];exact hw) ⟨.ref a,H,I,rfl,q⟩⟩
end
end L2
namespace Sm
open PySem L2 PySem.Spec PyProof.Rows
section
variable {X:Cx}
def o8 (d:D) (lo hi:Option Int) (h:MH):Option (D×MH):=match d with
 | .tup xs=>if HT.sIx xs.length 0 lo=0∧HT.sIx xs.length xs.length hi=xs.length then some (.tup xs,h) else some (.tup (cutD xs lo hi),h)
 | d=>fSl d lo hi h
def mN (a:EM) (l u:PM):EM:=fun δ h=>(a δ h).bind fun p=>(l δ p.2).bind fun q=>(u δ q.2).bind fun r=>o8 p.1 q.1 r.1 r.2
inductive RSLAi (K:PySem.W.Frag) (x:V) (lo hi:Option Int) (H:Hp) (Q:VK):Prop where
 | mk (ρ h d z h'):Sim K ρ h H→Rep K ρ H x d→(o8 d lo hi h=some (z,h'))→(∀v H',c9 K ρ H h' z v H'→Q v H')→RSLAi K x lo hi H Q
def zL (K:PySem.W.Frag):V→Option Int→Option Int→Hp→VK→Prop:=fun x lo hi H Q=>RSLAi K x lo hi H Q
theorem vJ:SlR X (zL X.K):=by
 intro pins s σ H x v vl vu lo hi sl Q I rx hs pl pu hh
 obtain ⟨ρ,h,d,z,h',S,rd,ee,k⟩:=hh
 cases d with
 | tup xs=>
  unfold o8 at ee
  dsimp only at ee
  by_cases c:HT.sIx xs.length 0 lo=0∧HT.sIx xs.length xs.length hi=xs.length
  ·rw [if_pos c] at ee
   cases ee
   have rd0:=rd
   cases rd with | tup h0 l0=>
   exact rL pins s σ H _ v vl vu lo hi sl Q I rx hs pl pu ⟨_,_,rfl,h0.sq,by rw [l0.length];exact c,k _ _ (.here S rd0)⟩
  ·rw [if_neg c] at ee
   exact vt pins s σ H x v vl vu lo hi sl Q I rx hs pl pu ⟨ρ,h,_,z,h',S,rd,by unfold fSl;dsimp only;rw [if_neg c];exact ee,k⟩
 | _=>exact vt pins s σ H x v vl vu lo hi sl Q I rx hs pl pu ⟨ρ,h,_,z,h',S,rd,ee,k⟩
theorem g0 {a:Expr} {lo hi:Option Expr} {pos p2:Pos} {ma:EM} {ml mu:PM} (ha:SE X a ma) (hl:SP' X lo ml) (hu:SP' X hi mu):SE X (.Subscript a (.Slice lo hi none p2) pos) (mN ma ml mu):=
 (su vJ ha hl hu).imp fun σ H Q ⟨ρ,δ,h,d,h',R,S,e,k⟩=>by
  obtain ⟨⟨x,h1⟩,e1,e2⟩:=bnd e
  obtain ⟨⟨l,h2⟩,e3,e4⟩:=bnd e2
  obtain ⟨⟨u,h3⟩,e5,e6⟩:=bnd e4
  exact ⟨ρ,δ,h,x,h1,R,S,e1,fun v H1 ⟨ρ1,T1,S1,r1⟩=>⟨ρ1,δ,h1,l,h2,R.mono T1.toCh,S1,e3,fun ρ2 H2 T2 S2=>⟨ρ2,δ,h2,u,h3,(R.mono T1.toCh).mono T2.toCh,S2,e5,fun ρ3 H3 T3 S3=>
   ⟨ρ3,h3,x,d,h',S3,r1.mono (T2.trans T3).toCh,e6,fun w H4 p=>k w H4 (p.step (T1.trans (T2.trans T3)))⟩⟩⟩⟩
def oa:Fn:=fun ds h=>match ds with
 | [.bl b]=>some (.int (if b then 1 else 0),h)
 | _=>none
theorem pA:fg X (.type "int") oa:=by
 intro pins s σ H xs us Q I r hh
 obtain ⟨ρ,h,ds,z,h',S,l,ee,k⟩:=hh
 match ds,l,ee with
 | [],_,ee=>cases ee
 | _::_::_,_,ee=>exact absurd ee (by unfold oa;split <;> simp_all)
 | [d],l,ee=>
  obtain ⟨v,rfl,rd⟩:=rep1 l
  cases rd <;> first | (cases ee;done) | skip
  cases ee
  obtain ⟨u,rfl,ru⟩:=Vals.one r
  cases ru
  exact call_int_bool ⟨.int _,H,I.kept (t':=s.toks+1) (h':=s.heap) fun _ _ e=>e,⟨_,rfl⟩,k _ _ (.here S (.int _))⟩
def fK (d e:D) (h:MH):Option (D×MH):=match d,e with
 | .str x,.int n=>if x.length≤1000∧0≤n∧n≤1000∧PyData.strOk (Txt.mul x n)=true then some (.str (Txt.mul x n),h) else none
 | d,e=>xH d e h
theorem eX:OpS X (binaryOp .Mult) fK:=by
 intro pins s σ H x y v u Q I rx ry hh
 obtain ⟨ρ,h,d,e,z,h',S,rd,re,ee,k⟩:=hh
 unfold fK at ee
 split at ee
 ·rename_i x0 n
  by_cases c:x0.length≤1000∧0≤n∧n≤1000∧PyData.strOk (Txt.mul x0 n)=true
  ·rw [if_pos c] at ee
   cases ee
   cases rd
   cases re
   obtain ⟨t1,rfl⟩:=rx
   obtain ⟨t2,rfl⟩:=ry
   obtain ⟨c1,c2,c3,c4⟩:=c
   refine SB.mul ⟨?_,fun _ _=>?_,fun _ _=>?_⟩ fun t' k'=>⟨.str _,H,I.kept (t':=k') (h':=s.heap) fun _ _ e=>e,⟨t',rfl⟩,k _ _ (.here S (.str c4))⟩
   ·rw [decide_eq_false (by omega),decide_eq_false (by omega)];rfl
   ·have h1:(9007199254740991:Int)≤(2^63-1) / n:=by
     refine Int.le_ediv_of_mul_le (by omega) ?_
     have:9007199254740991*n≤9007199254740991*1000:=Int.mul_le_mul_of_nonneg_left c3 (by decide)
     omega
    omega
   ·have h1:x0.length*n.toNat≤1000*1000:=Nat.mul_le_mul c1 (by omega)
    refine decide_eq_false ?_
    have:=sizeLine_eq
    omega
  ·rw [if_neg c] at ee;cases ee
 ·exact w6 pins s σ H x y v u Q I rx ry ⟨ρ,h,_,_,z,h',S,rd,re,ee,k⟩
end
end Sm
namespace L2
open PySem PySem.Spec PyProof.Rows
theorem rW (its:List Value):((List.range its.length).filterMap fun (k:Nat)=>its.toArray[(((its.length:Int)-1)+(k:Int)*(-1)).toNat]?).toArray=its.reverse.toArray:=by
 rw [←nO]
 unfold slicePick
 have hb:sliceBounds none none (some (-1)) its.toArray.size=((its.length:Int)-1,-1,-1):=by
  unfold sliceBounds
  simp
 rw [hb]
 dsimp only
 unfold sliceRange
 dsimp only
 rw [if_neg (by decide)]
 have hc:(if (its.length:Int)-1 > -1 then ((its.length:Int)-1 - -1 - -1-1) / (- -1) else 0)=(its.length:Int):=by
  split
  ·simp
  ·omega
 rw [hc,Int.toNat_natCast,List.filterMap_map]
 congr 2
 funext k
 show _=its.toArray[((its.length:Int)-1+-1*(k:Int)).toNat]?
 rw [Int.mul_comm]
section
variable {prog:Program} {w:World} {A:Around} {E:Value→Shared→Prop} {s:Shared}
open HT in
theorem ua {t sl:Addr} {its:List Value} {tk:Tok} {Q:Value→Shared→Prop} (ht:IsTup s.heap t its.toArray) (hs:s.heap.IsSliceOf sl .none .none (.int (-1) tk))
  (h:Q (.ref s.heap.objs.size) {s with heap:=s.heap.push {cls:=.type "tuple",data:=.seq its.reverse.toArray}}) (hsz:its.length≤sizeLine):wpAny (model prog w) A (getItem (.ref t) (.ref sl)) Q E s:=by
 obtain ⟨os,hos,hcs,hds⟩:=id hs
 have hTs:s.TypeIs (.ref sl) "slice":=⟨os,hos,hcs⟩
 unfold getItem
 try with_reducible refine wpAny_holding ?_
 first | refine wpAny_bind (wpAny_pure ?_) | skip
 refine wpAny_bind (wpAny_sequenceKey ht.typeIs (by decide) ?_)
 refine wpAny_bind (wpAny_callSpecial?_slot (name:=Str.ofString "__getitem__") ht.typeIs PyProof.Rows.slot_tuple_getitem (wpAny_call_entry PyProof.Rows.slot_tuple_getitem ht.typeIs entry_tuple_getitem ?_ (args_tuple_getitem _ _)))
 show wpAny _ _ (Builtin.Tuple.tupleItemsOf (.ref t) >>=_) _ _ s
 refine wpAny_bind (tupleItemsOf_ ht (wpAny_bind (wpAny_typeOf hTs ?_)))
 rw [if_pos (by decide)]
 refine wpAny_bind (m:=Builtin.Slice.sliceApplied _ _) ?_
 unfold Builtin.Slice.sliceApplied Builtin.Slice.sliceFields
 refine wpAny_bind (wpAny_bind (wpAny_field hos hds (x:=.none) rfl (wpAny_bind (wpAny_field hos hds (x:=.none) rfl (wpAny_bind (wpAny_field hos hds (x:=.int (-1) tk) rfl (wpAny_pure ?_)))))))
 refine wpAny_bind (slicePart_int ?_)
 show wpAny _ _ (if ((-1:Int)==0)=true then _ else _) _ _ s
 rw [if_neg (by decide)]
 refine wpAny_bind (slicePart_none (wpAny_bind (slicePart_none (wpAny_bind (wpAny_pure ?_)))))
 have hadj:Builtin.Slice.sliceAdjust none none (-1) (its.toArray.size:Int)=((its.length:Int)-1,-1):=by
  unfold Builtin.Slice.sliceAdjust
  simp
 have hpl:Builtin.Slice.slicePlaces ((its.length:Int)-1) (-1) (-1)=its.length:=by
  unfold Builtin.Slice.slicePlaces
  rw [if_neg (by decide)]
  split
  ·simp
  ·omega
 show wpAny _ _ (match Builtin.Slice.sliceAdjust none none (-1) (its.toArray.size:Int) with | (lo,hi)=>pure (lo,(-1:Int),Builtin.Slice.slicePlaces lo hi (-1))) _ _ s
 rw [hadj]
 show wpAny _ _ (pure ((its.length:Int)-1,(-1:Int),Builtin.Slice.slicePlaces ((its.length:Int)-1) (-1) (-1))) _ _ s
 rw [hpl]
 refine wpAny_pure ?_
 show wpAny _ _ (if ((its.length:Int)-1==0&&(-1:Int)==1&&its.length==its.toArray.size)=true then _ else _) _ _ s
 rw [if_neg (by rw [show ((-1:Int)==1)=false from rfl];simp),rW]
 have htake:sizeOk (.seq its.reverse.toArray):=by
  show its.reverse.toArray.size≤sizeLine
  rw [List.size_toArray,List.length_reverse]
  exact hsz
 first
  | exact wpAny_bind (m:=Builtin.Tuple.tupleExact _) (wpAny_newObj_type (wpAny_pure ⟨_,rfl,wpAny_pure h⟩) htake)
  | exact wpAny_bind (wpAny_bind (m:=Builtin.Tuple.tupleExact _) (wpAny_newObj_type (wpAny_pure (wpAny_pure ⟨_,rfl,wpAny_pure h⟩)) htake))
end
section
variable {X:Cx} {e st:Expr} {te ts:TE} {pos p2:Pos}
def yh (K:PySem.W.Frag) (te ts:TE):TE:=fun σ H Q=>te σ H fun x H1=>ts σ H1 fun y H2=>y=.int (-1)∧∃a xs,x=.ref a∧((SqL K H2 a xs∧∀p,H2 p=none→Q (.ref p) (upd H2 p (.lst xs.reverse)))∨(SqT K H2 a xs∧∀p,H2 p=none→Q (.ref p) (upd H2 p (.tup xs.reverse))))
theorem uQ (he:PE X e te) (hs:PE X st ts):PE X (.Subscript e (.Slice none none (some st) p2) pos) (yh X.K te ts):=by
 intro pins s σ H Q I h
 refine Subscript_ (thn (he pins s σ H _ I h) fun v s1 ⟨x,H1,I1,r1,q1⟩=>?_)
 refine wpAny_Slice ?_
 rw [evalPart_none]
 refine wpAny_pure (wpAny_pure ?_)
 rw [evalPart_some]
 refine thn (hs pins s1 σ H1 _ I1 q1) fun vs s3 ⟨y,H3,I3,r3,ey,a,xs,ex,q3⟩=>?_
 subst ey ex
 obtain ⟨tk,rfl⟩:=r3
 cases r1
 have I4:Inv X pins σ H3 {s3 with heap:=s3.heap.push {cls:=.type "slice",data:=.fields #[.none,.none,.int (-1) tk]}}:=I3.kept (t':=s3.toks) fun b ob q=>Heap.get?_push_of_some _ q
 show wpAny (model X.prog X.w) X.A (subscriptTail e (.Slice none none (some st) p2) (.ref a) (.ref s3.heap.objs.size)) (EP X pins σ Q) X.xe {s3 with heap:=s3.heap.push {cls:=.type "slice",data:=.fields #[.none,.none,.int (-1) tk]}}
 rcases q3 with ⟨hx,q3⟩ | ⟨hx,q3⟩
 ·obtain ⟨its,r,ht,hz⟩:=I4.list hx
  refine tail_any (ops:=[.ref a,.ref s3.heap.objs.size]) (T:="list") ht.isList.typeIs slot_list_getitem.lookup ?_ (by with_unfolding_all rfl)
  refine wpAny_getItem_list_slice ht.isList (Heap.IsSliceOf.new ..) .none .none (.int (-1) tk) (by decide) ?_ (by rw [List.size_toArray,←r.length];exact hz)
  rw [nO]
  refine ⟨.ref _,_,I4.laid (t':=s3.toks) (o:=.lst xs.reverse) (fun b ob q=>Heap.get?_push_of_some _ q) (Nat.le_refl _) ?_,rfl,q3 _ (I4.hok.fresh (Nat.le_refl _))⟩
  exact ⟨by rw [List.length_reverse];exact hz,its.reverse,0,i5 r,Heap.get?_push_size _ rfl⟩
 ·obtain ⟨its,r,ht,hz⟩:=I4.tuple hx
  refine tail_any (ops:=[.ref a,.ref s3.heap.objs.size]) (T:="tuple") ht.typeIs PyProof.Rows.slot_tuple_getitem.lookup ?_ (by with_unfolding_all rfl)
  refine ua ht (Heap.IsSliceOf.new ..) ?_ (by rw [←r.length];exact hz)
  refine ⟨.ref _,_,I4.laid (t':=s3.toks) (o:=.tup xs.reverse) (fun b ob q=>Heap.get?_push_of_some _ q) (Nat.le_refl _) ?_,rfl,q3 _ (I4.hok.fresh (Nat.le_refl _))⟩
  exact ⟨by rw [List.length_reverse];exact hz,its.reverse,i5 r,nv.new _ _⟩
end
end L2
namespace Sm
open PySem L2 PySem.Spec PyProof.Rows
section
variable {X:Cx} {e st:Expr} {ma ms:EM} {pos p2:Pos}
def jE (m s:EM):EM:=fun δ h=>(m δ h).bind fun p=>(s δ p.2).bind fun q=>match q.1 with
 | .int j=>if j=-1 then (cH p.1 q.2).map fun r=>(if iN p.1=true then .lv r.1.reverse else .tup r.1.reverse,q.2) else none
 | _=>none
theorem lQ (he:SE X e ma) (hs:SE X st ms):SE X (.Subscript e (.Slice none none (some st) p2) pos) (jE ma ms):=(uQ he hs).imp fun σ H Q ⟨ρ,δ,h,d,h',R,S,ee,k⟩=>by
 obtain ⟨⟨x,h1⟩,e1,e2⟩:=bnd ee
 obtain ⟨⟨y,h2⟩,e3,e4⟩:=bnd e2
 dsimp only at e3 e4
 cases y <;> first | (cases e4;done) | skip
 rename_i j
 dsimp only at e4
 by_cases z:j=-1
 ·rw [if_pos z] at e4
  subst z
  obtain ⟨⟨xs,ws⟩,e5,e6⟩:=mpd e4
  cases e6
  refine ⟨ρ,δ,h,x,h1,R,S,e1,fun v H1 ⟨ρ1,T1,S1,r1⟩=>⟨ρ1,δ,h1,.int (-1),_,R.mono T1.toCh,S1,e3,fun u H2 ⟨ρ2,T2,S2,r2⟩=>⟨by cases r2;rfl,?_⟩⟩⟩
  obtain ⟨a,rfl,⟨vs,q,l⟩,_⟩:=fu S2 (r1.mono T2.toCh) e5
  refine ⟨a,vs,rfl,?_⟩
  generalize iN x=b at q k
  cases q with
  | l q=>exact .inl ⟨q,fun p hp=>k _ _ (c9.step (T1.trans T2) (.lv S2 l.rev hp))⟩
  | t q=>exact .inr ⟨q,fun p hp=>k _ _ (c9.step (T1.trans T2) (.tup S2 l.rev hp))⟩
 ·rw [if_neg z] at e4;cases e4
end
end Sm
namespace L2
open PySem PySem.Spec PyProof.Rows
section
variable {prog:Program} {w:World} {A:Around} {E:Value→Shared→Prop} {s:Shared}
open HT in
theorem tQ {t b:Addr} {vs ws:List Value} {Q:Value→Shared→Prop} (ht:IsTup s.heap t vs.toArray) (hb:IsTup s.heap b ws.toArray) (hv:vs=[]) (h:Q (.ref b) s):wpAny (model prog w) A (binaryOp .Add (.ref t) (.ref b)) Q E s:=by
 obtain ⟨⟨cls,dd,data,sl⟩,ho,hc,n,hd⟩:=id ht
 obtain ⟨⟨cls2,dd2,data2,sl2⟩,ho2,hc2,n2,hd2⟩:=id hb
 simp only at hc hd hc2 hd2
 subst hc hd hc2 hd2
 exact concat_meets ⟨_,ho,rfl⟩ ⟨_,ho2,rfl⟩ noFill_tuple_add seq_tuple_add PySem.F.slot_tuple_add PySem.F.entry_tuple_add (PySem.F.args_tuple_add_2 _ _)
   (tuple_addW0 t b vs.toArray ws.toArray n n2 dd dd2 sl sl2 (by simp [hv])) ⟨ho,ho2,h⟩
end
section
variable {X:Cx}
theorem sH:OpR X (binaryOp .Add) (fun x y H Q=>∃a b ys,x=.ref a∧y=.ref b∧SqT X.K H a []∧SqT X.K H b ys∧Q (.ref b) H):=by
 intro pins s σ H x y v u Q I rx ry h
 obtain ⟨a,b,ys,rfl,rfl,ha,hb,q⟩:=h
 cases rx
 cases ry
 obtain ⟨its,r1,p1,_⟩:=I.tuple ha
 obtain ⟨its2,r2,p2,_⟩:=I.tuple hb
 exact tQ p1 p2 (r1.iV.mpr rfl) ⟨.ref b,H,I,rfl,q⟩
end
end L2
namespace Sm
open PySem L2 PySem.Spec PyProof.Rows
section
variable {X:Cx}
def aV (d e:D) (h:MH):Option (D×MH):=match d,e with
 | .tup [],.tup ys=>some (.tup ys,h)
 | d,e=>qQ d e h
theorem aJ:OpS X (binaryOp .Add) aV:=by
 intro pins s σ H x y v u Q I rx ry hh
 obtain ⟨ρ,h,d,e,z,h',S,rd,re,ee,k⟩:=hh
 unfold aV at ee
 split at ee
 ·cases ee
  have re0:=re
  cases rd with | tup h1 l1=>cases re with | tup h2 l2=>
  cases l1
  exact sH pins s σ H _ _ v u Q I rx ry ⟨_,_,_,rfl,rfl,h1.sq,h2.sq,k _ _ (.here S re0)⟩
 ·exact xa pins s σ H _ _ v u Q I rx ry ⟨ρ,h,_,_,z,h',S,rd,re,ee,k⟩
end
end Sm
namespace Sm
open PySem L2 PySem.Spec PyProof.Rows
section
variable {X:Cx}
def sW:Fn:=fun ds h=>match ds with
 | [.int i,.int j]=>some (.int (if j < i then j else i),h)
 | _=>none
def mL:Fn:=fun ds h=>match ds with
 | [.int i,.int j]=>some (.int (if j > i then j else i),h)
 | _=>none
theorem xM (hc:X.calm=true):fg X (.builtin "min") sW:=by
 intro pins s σ H xs us Q I r hh
 obtain ⟨ρ,h,ds,z,h',S,l,ee,k⟩:=hh
 match ds,l,ee with
 | [],_,ee=>cases ee
 | [_],_,ee=>exact absurd ee (by unfold sW;split <;> simp_all)
 | _::_::_::_,_,ee=>exact absurd ee (by unfold sW;split <;> simp_all)
 | [d,e],l,ee=>
  obtain ⟨v,w,rfl,rd,re⟩:=rep2 l
  cases rd <;> first | (cases ee;done) | skip
  cases re <;> first | (cases ee;done) | skip
  cases ee
  exact qX hc pins s σ H _ us Q I r ⟨_,_,rfl,k _ _ (.here S (.int _))⟩
theorem jG (hc:X.calm=true):fg X (.builtin "max") mL:=by
 intro pins s σ H xs us Q I r hh
 obtain ⟨ρ,h,ds,z,h',S,l,ee,k⟩:=hh
 match ds,l,ee with
 | [],_,ee=>cases ee
 | [_],_,ee=>exact absurd ee (by unfold mL;split <;> simp_all)
 | _::_::_::_,_,ee=>exact absurd ee (by unfold mL;split <;> simp_all)
 | [d,e],l,ee=>
  obtain ⟨v,w,rfl,rd,re⟩:=rep2 l
  cases rd <;> first | (cases ee;done) | skip
  cases re <;> first | (cases ee;done) | skip
  cases ee
  exact qY hc pins s σ H _ us Q I r ⟨_,_,rfl,k _ _ (.here S (.int _))⟩
end
end Sm
namespace L2
open PySem PySem.Spec PyProof.Rows
section
variable {X:Cx} {a b:Expr} {rest:List Expr} {pos:Pos} {ta tb:TE}
end
end L2
namespace Sm
open PySem L2 PySem.Spec PyProof.Rows
section
variable {X:Cx} {a b:Expr} {pos:Pos} {ma mb:EM}
end
end Sm
namespace L2
open PySem PySem.Spec PyProof.Rows
section
variable {X:Cx} {pins:List (Addr×Obj)} {σ:St} {H:Hp} {s:Shared} {a:Addr} {o:Obj} {kvs:List (Key×V)}
end
end L2
namespace Sm
open PySem L2 PySem.Spec PyProof.Rows
section
variable {X:Cx}
end
theorem xP:bootBuiltins "min"=some (.builtin "min"):=by decide+kernel
theorem jP:bootBuiltins "max"=some (.builtin "max"):=by decide+kernel
end Sm
namespace Sm
open PySem L2 PySem.Spec PyProof.Rows
section
variable {X:Cx} {g:GM} {mt:TM} {ma:EM}
end
end Sm
namespace L2
open PySem PySem.Spec PyProof.Rows
section
variable {X:Cx}
end
end L2
namespace L2
open PySem PySem.Spec PyProof.Rows
section
variable {X:Cx}
theorem kA:∀{ss:List Str} {us:List Value},Vals (ss.map V.str) us→StrsAre us ss
 | [],_,.nil=>.nil
 | x::r,_,.cons q l=>by obtain ⟨t,rfl⟩:=q;exact .cons x t (kA l)
theorem pD:dZ X (.builtin "sorted") (fun xs H Q=>∃a ss,xs=[.ref a]∧SqL X.K H a (ss.map V.str)∧ss.length < 64∧∀l,H l=none→Q (.ref l) (upd H l (.lst ((ff ss).map V.str)))):=by
 intro pins s σ H xs us Q I r h
 obtain ⟨a,ss,rfl,ha,h64,q⟩:=h
 obtain ⟨u,rfl,ru⟩:=vals1 r
 cases ru
 obtain ⟨its,rv,p,hz⟩:=I.list ha
 have hS:=kA rv
 have hlen:its.length=ss.length:=by have:=rv.length;rw [List.length_map] at this;exact this.symm
 refine sorted_strs p.isList hS (by omega) fun out ss' h1 h2 h3=>?_
 have:=rJ h2 h3
 subst this
 have hl:s.heap.objs.size≤s.heap.objs.size+1:=Nat.le_succ _
 obtain ⟨e,ho⟩:=sortedAll_at s.heap its out
 have hz':((ff ss).map V.str).length≤sizeLine:=by rw [List.length_map,(gc ss).length_eq,sizeLine_eq];omega
 refine ⟨.ref (s.heap.objs.size+1),_,I.laid (t':=s.toks) (o:=.lst ((ff ss).map V.str)) (fun b o q=>sortedAll_old q) hl ⟨hz',out.toList,e,ko h1,?_⟩,rfl,q _ (I.hok.fresh hl)⟩
 rw [ho]
end
end L2
namespace Sm
open PySem L2 PySem.Spec PyProof.Rows
section
variable {X:Cx}
def jy:List D→Option (List Int)
 | []=>some []
 | .int i::r=>(jy r).map fun is=>i::is
 | _=>none
theorem nZ:∀{xs:List D} {ns:List Int},jy xs=some ns→xs=ns.map D.int
 | [],_,e=>by cases e;rfl
 | d::r,ns,e=>by
  cases d <;> first | (cases e;done) | skip
  obtain ⟨is,e1,e2⟩:=mpd (show (jy r).map _=some ns from e)
  cases e2
  rw [nZ e1];rfl
theorem ji {K:PySem.W.Frag} {ρ:Ad} {H:Hp}:∀{vs:List V} {ns:List Int},RepL K ρ H vs (ns.map D.int)→vs=ns.map V.int
 | _,[],.nil=>rfl
 | _,n::r,.cons q l=>by cases q;rw [ji l];rfl
def i8:List D→Option (List Str)
 | []=>some []
 | .str i::r=>(i8 r).map fun is=>i::is
 | _=>none
theorem nB:∀{xs:List D} {ns:List Str},i8 xs=some ns→xs=ns.map D.str
 | [],_,e=>by cases e;rfl
 | d::r,ns,e=>by
  cases d <;> first | (cases e;done) | skip
  obtain ⟨is,e1,e2⟩:=mpd (show (i8 r).map _=some ns from e)
  cases e2
  rw [nB e1];rfl
theorem kB:∀(ns:List Str),i8 (ns.map D.str)=some ns
 | []=>rfl
 | n::r=>by show (i8 (r.map D.str)).map _=_;rw [kB r];rfl
theorem jg {K:PySem.W.Frag} {ρ:Ad} {H:Hp}:∀{vs:List V} {ns:List Str},RepL K ρ H vs (ns.map D.str)→vs=ns.map V.str∧∀k∈ns,PyData.strOk k=true
 | _,[],.nil=>⟨rfl,fun _ h=>(nomatch h)⟩
 | _,n::r,.cons q l=>by
  cases q with
  | str h=>
   obtain ⟨e,f⟩:=jg l
   refine ⟨by rw [e];rfl,fun k hk=>?_⟩
   rcases List.mem_cons.mp hk with rfl | hk
   ·exact h
   ·exact f k hk
def sU:Fn:=fun ds h=>match ds with
 | [d]=>(eB d h).bind fun xs=>(i8 xs).bind fun ns=>if ns.length < 64 then some (.lv ((ff ns).map D.str),h) else none
 | _=>none
theorem tF:fg X (.builtin "sorted") sU:=by
 intro pins s σ H xs us Q I r hh
 obtain ⟨ρ,h,ds,z,h',S,l,ee,k⟩:=hh
 match ds,l,ee with
 | [],_,ee=>cases ee
 | _::_::_,_,ee=>cases ee
 | [d],l,ee=>
  obtain ⟨v,rfl,rd⟩:=rep1 l
  obtain ⟨ys,e1,e2⟩:=bnd ee
  obtain ⟨ns,e3,e4⟩:=bnd e2
  by_cases c:ns.length < 64
  ·rw [if_pos c] at e4
   cases e4
   obtain ⟨a,vs,rfl,ha,la⟩:=dy S rd e1
   have:=nB e3
   subst this
   obtain ⟨e5,f⟩:=jg la
   subst e5
   refine pD pins s σ H _ us Q I r ⟨a,ns,rfl,SqL.of ha,c,fun l hl=>k _ _ (.lv S (kF _ fun x hx=>f x ((gc ns).mem_iff.mp hx)) hl)⟩
  ·rw [if_neg c] at e4;cases e4
end
end Sm
namespace Sm
open PySem L2 PySem.Spec PyProof.Rows
section
variable {α:Type} {K:PySem.W.Frag} {A:Ac α} {l:Addr} {g:GM} {mt:TM} {m:MK α}
mutual
theorem Rep.calm {ρ ρ':Ad} {H:Hp} (hs:∀a,ρ'.has a→ρ.has a):∀{v:V} {d:D},Rep K ρ H v d→clD 0 d=true→Rep K ρ' H v d
 | _,_,.non,_=>.non
 | _,_,.bl b,_=>.bl b
 | _,_,.int i,_=>.int i
 | _,_,.str h,_=>.str h
 | _,_,.ty n,_=>.ty n
 | _,_,.tup h l,c=>.tup (h.elim (fun ⟨a,n⟩=>.inl ⟨a,fun z=>n (hs _ z)⟩) .inr) (RepL.calm hs l (by simpa [clD] using c))
 | _,_,.lv h n l,c=>.lv h (fun z=>n (hs _ z)) (RepL.calm hs l (by simpa [clD] using c))
 | _,_,.ro h l,c=>.ro (h.elim (fun ⟨a,n⟩=>.inl ⟨a,fun z=>n (hs _ z)⟩) .inr) (RepL.calm hs l (by simpa [clD] using c))
 | _,_,.dv h n l,c=>.dv h (fun z=>n (hs _ z)) (RepK.calm hs l (by simpa [clD] using c))
 | _,_,.ob e,c=>by simp [clD] at c
theorem RepL.calm {ρ ρ':Ad} {H:Hp} (hs:∀a,ρ'.has a→ρ.has a):∀{vs:List V} {ds:List D},RepL K ρ H vs ds→clL 0 ds=true→RepL K ρ' H vs ds
 | _,_,.nil,_=>.nil
 | _,_,.cons r l,c=>by
  simp [clL] at c
  exact .cons (Rep.calm hs r c.1) (RepL.calm hs l c.2)
theorem RepK.calm {ρ ρ':Ad} {H:Hp} (hs:∀a,ρ'.has a→ρ.has a):∀{vs:List (Key×V)} {ds:List (Key×D)},RepK K ρ H vs ds→clK 0 ds=true→RepK K ρ' H vs ds
 | _,_,.nil,_=>.nil
 | _,_,.cons r l,c=>by
  simp [clK] at c
  exact .cons (Rep.calm hs r c.1) (RepK.calm hs l c.2)
end
end
section
variable {X:Cx} {k v tg iter:Expr} {pos:Pos} {mk mv:EM} {mt:TM} {g:GM} {N':List Str} {caps:List (Option Nat)} {scope:Scope} {ifs:List Expr} {mi:IM}
end
theorem lx:bootBuiltins "sorted"=some (.builtin "sorted"):=by decide+kernel
end Sm
namespace L2
open PySem PySem.Spec PyProof.Rows
section
variable {X:Cx}
end
end L2
namespace Sm
open PySem L2 PySem.Spec PyProof.Rows
section
variable {X:Cx}
end
end Sm
namespace L2
open PySem PySem.Spec PyProof.Rows
section
variable {X:Cx}
end
end L2
namespace Sm
open PySem L2 PySem.Spec PyProof.Rows
section
variable {X:Cx}
end
end Sm
namespace Hd
open PySem PySem.W PySem.Spec PyProof.Rows L2 Sm
def u4 (_:Obj):Bool:=true
def kAt (h:Heap) (a:Addr):Option (Addr×Obj):=match h.get? a with
 | some o=>if u4 o then some (a,o) else none
 | none=>none
def cq (h:Heap):Frag:=(List.range h.objs.size).filterMap (kAt h)
theorem ig (h:Heap) (a:Addr):∀l:List Addr,(l.filterMap (kAt h)).lookup a=if a∈l then (kAt h a).map (·.2) else none
 | []=>rfl
 | b::r=>by
  have ih:=ig h a r
  by_cases hb:a=b
  ·subst hb
   rw [if_pos List.mem_cons_self]
   rw [List.filterMap_cons]
   cases e:kAt h a with
   | none=>
    dsimp only
    rw [ih,e]
    split <;> rfl
   | some p=>
    have hp:p.1=a:=by
     unfold kAt at e
     split at e
     ·split at e
      ·cases e;rfl
      ·cases e
     ·cases e
    obtain ⟨p1,p2⟩:=p
    dsimp only at hp
    subst hp
    simp
  ·have hm:(a∈b::r)↔a∈r:=by simp [hb]
   rw [List.filterMap_cons]
   cases e:kAt h b with
   | none=>dsimp only;rw [ih];simp only [hm]
   | some p=>
    have hp:p.1=b:=by
     unfold kAt at e
     split at e
     ·split at e
      ·cases e;rfl
      ·cases e
     ·cases e
    obtain ⟨p1,p2⟩:=p
    dsimp only at hp
    subst hp
    have hab:(a==p1)=false:=by simpa using hb
    rw [List.lookup_cons,hab]
    dsimp only
    rw [ih];simp only [hm]
theorem fU {h:Heap} {a:Addr} {o:Obj} (e:h.get? a=some o) (f:u4 o=true):(cq h).lookup a=some o:=by
 unfold cq
 rw [ig,if_pos]
 ·unfold kAt;rw [e];dsimp only;rw [if_pos f];rfl
 ·rw [List.mem_range]
  exact Heap.lt_size e
theorem u0 (h:Heap):(cq h).In h:=fun a o e=>by
 unfold cq at e
 rw [ig] at e
 split at e
 ·unfold kAt at e
  cases g:h.get? a with
  | none=>rw [g] at e;cases e
  | some o'=>
   rw [g] at e
   dsimp only at e
   split at e
   ·cases e;rfl
   ·cases e
 ·cases e
def posOf (s:Stmt):Pos:=match s with
 | .FunctionDef _ _ _ _ _ _ _ _ _ p=>p
 | _=>⟨0,0,0,0⟩
def b0 (n:Str) (s:Stmt):DefRec:=⟨n,gO s,fc s,aB s,posOf s⟩
theorem vf {h:Heap} {cd:Value} {q:Str} (r:h.CodeRec cd q):codeIn (cq h) cd q=true:=by
 obtain ⟨c,o,vs,t,rfl,g,d,e⟩:=r
 have f:u4 o=true:=rfl
 unfold codeIn
 dsimp only
 rw [fU g f]
 obtain ⟨oc,od,dt,sl⟩:=o
 dsimp only at d
 subst d
 dsimp only
 obtain ⟨l⟩:=vs
 match l,e with
 | x::.str n _::r,e=>cases e;simp
theorem cG {q:Program} {loose:List Str} {mean:ExcName→Option Value} {mg mb:Str→Option Value} {h:Heap} (T:Top q loose mean mg mb h) {n:Str} {st:Stmt} (e:(recsOf q).find? (fun e=>e.name==n)=some (b0 n st)):
  ∃f fd,mg n=some (.ref f)∧Fun (cq h) n n st f fd:=by
 have hm:b0 n st∈recsOf q:=List.mem_of_find?_eq_some e
 obtain ⟨a,o,pm,code,doc,m,g,d,c⟩:=T.fn _ hm
 have f:u4 o=true:=rfl
 have lk:=fU g f
 have kp:keepIn (cq h) (.ref a)=true:=by
  unfold keepIn
  dsimp only
  rw [lk]
  obtain ⟨oc,od,dt,sl⟩:=o
  dsimp only at d
  subst d
  rfl
 obtain ⟨oc,od,dt,sl⟩:=o
 dsimp only at d
 subst d
 exact ⟨a,_,m,⟨oc,od,.none,doc,pm,_,code,_,sl,rfl,lk,vf c⟩,kp⟩
theorem _root_.L2.Fun.one {K:Frag} {x qual:Str} {st:Stmt} {f:Addr} {fd:FuncData} {p:Str} (F:Fun K x qual st f fd)
  (h:∀(kV doc pm:Value) (an:Option Addr) (cdv ct:Value) (u:Value),bindArgs (PySem.W.fnOf x qual (gO st) (fc st) (aB st) .none kV doc pm an cdv ct) ⟨[u],[]⟩=pure [(p,u)]) (s:Shared) (u:Value):BindsTo s fd ⟨[u],[]⟩ [(p,u)]:=by
 obtain ⟨oc,od,kV,doc,pm,an,cdv,ct,osl,rfl,lk,hcd⟩:=F.ex
 exact .of_eq (h kV doc pm an cdv ct u)
theorem xE {l:OpenLaw} {q:Program} {loose:List Str} {XP:(Str→Option Value)→Heap→Prop} {YP:World→Heap→Prop} {d:DefRec} {k:Nat} (hn:l.most=some 63) (hdf:d.params.defaults=[]) (hr:Room k callerA)
  (F:∀(w:World) (s₀:Shared) (mg mb:Str→Option Value) (h:Heap),Ground q loose [] XP w s₀ mg mb h→YP w h→∃(fa:Addr) (fd:FuncData),mg d.name=some (.ref fa)∧(∀(s:Shared) (u:Value),BindsTo s fd ⟨[u],[]⟩ [("_law_script",u)])∧
   ∀base:Heap,(cq h).In base→base.Ns mainGlobals mg→FnOk l.prog w (cq h) mg base CX0 k fa fd ["_law_script"] (spT (cq h))):
  WalkO q loose XP YP l.row.toRowW d [] (fun f vs=>PySem.call f vs):=by
 refine Att.ow hn hdf fun w s₀ s₁ mg mb fa o pm cd doc a vs ns G Y ho hd hcd hmg hobj hints hlen hg=>?_
 obtain ⟨fa',fd,e,hb,hF⟩:=F w s₀ mg mb _ G Y
 rw [e] at hmg
 cases hmg
 exact sP (u0 _) G.T.g G.T.b G.T.builtins G.T.nolimit hg hobj hints (Nat.le_trans hlen (by decide)) hr hF hb (fun H hO hS=>⟨a,ns,rfl,hS,hlen,fun _=>rfl⟩) fun _ _ _ z=>z
def freeOk (q:Program) (loose xs:List Str):Bool:=xs.all fun x=>!startupNames.contains x&&!(looseW q loose).contains x&&!((recsOf q).map (·.name)).contains x&&!((litsOf q).map (·.1)).contains x&&!((clssOf q (looseW q loose)).map (·.name)).contains x
theorem cf {q:Program} {loose xs:List Str} {mean:ExcName→Option Value} {mg mb:Str→Option Value} {h:Heap} (T:Top q (looseW q loose) mean mg mb h) (e:freeOk q loose xs=true) {x:Str} (hx:x∈xs):mg x=none:=by
 have:=List.all_eq_true.mp e x hx
 simp only [Bool.and_eq_true,Bool.not_eq_true',List.contains_eq_mem,decide_eq_false_iff_not] at this
 exact T.free x this.1.1.1.1 this.1.1.1.2 this.1.1.2 this.1.2 this.2
end Hd
namespace Sm
open PySem L2
def kDl (f:Expr→Option D):List Expr→Option (List D)
 | []=>some []
 | e::es=>(f e).bind fun d=>(kDl f es).bind fun ds=>some (d::ds)
def kD:Nat→Expr→Option D
 | 0,_=>none
 | n+1,e=>match e with
  | .Constant .none _ _=>some .non
  | .Constant (.bool b) _ _=>some (.bl b)
  | .Constant (.int i) _ _=>some (.int i)
  | .Constant (.str x) _ _=>if PyData.strOk x then some (.str x) else none
  | .UnaryOp .USub (.Constant (.int i) _ _) _=>some (.int (-i))
  | .Tuple es _ _=>(kDl (kD n) es).bind fun ds=>if ds.length≤1000 then some (.tup ds) else none
  | .List es _=>(kDl (kD n) es).bind fun ds=>if ds.length≤1000 then some (.lv ds) else none
  | .Dict [] [] _=>some (.dv [])
  | _=>none
def aK (ds:List D):AM:=fun _ h=>some (ds,h)
theorem y9 (ds:List D):iw (aK ds) ds.length:=fun δ h xs h' e=>by cases e;rfl
section
variable {X:Cx}
theorem rD {n:Nat} {e:Expr} {d:D} (h:kD n e=some d) (es:List Expr):starEach (e::es) X.env=(false,eval e X.env)::starEach es X.env:=by
 cases n with
 | zero=>cases h
 | succ n=>cases e <;> first | rfl | (exfalso;exact (nomatch h))
theorem lW {f:Expr→Option D} (hf:∀{e:Expr} {d:D},f e=some d→SE X e (eK d)) (hs:∀{e:Expr} {d:D},f e=some d→∀es:List Expr,starEach (e::es) X.env=(false,eval e X.env)::starEach es X.env):
  ∀{es:List Expr} {ds:List D},kDl f es=some ds→SA X es (aK ds)
 | [],ds,h=>by cases h;exact ag
 | e::es,ds,h=>by
  unfold kDl at h
  obtain ⟨d,e1,h⟩:=bnd h
  obtain ⟨r,e2,h⟩:=bnd h
  cases h
  exact (aa (hf e1) (lW hf hs e2) (hs e1 es):SA X _ (ae (eK d) (aK r)))
theorem cN:∀(n:Nat) {e:Expr} {d:D},kD n e=some d→SE X e (eK d)
 | 0,_,_,h=>by cases h
 | n+1,e,d,h=>by
  unfold kD at h
  split at h
  ·cases h;exact g6
  ·cases h;exact rP
  ·cases h;exact ai
  ·split at h
   ·rename_i hs;cases h;exact ao hs
   ·cases h
  ·cases h;exact (iy fo ai:SE X _ (eUn iI (eK _)))
  ·obtain ⟨ds,e1,e2⟩:=bnd h
   split at e2
   ·rename_i hl;cases e2
    exact (aw (lW (cN n) rD e1) (y9 ds) (Nat.le_trans hl (by decide)):SE X _ (eFn bg (aK ds)))
   ·cases e2
  ·obtain ⟨ds,e1,e2⟩:=bnd h
   split at e2
   ·rename_i hl;cases e2
    exact (SFL.lv (bE (lW (cN n) rD e1) (y9 ds) (Nat.le_trans hl (by decide))):SE X _ (eLv (aK ds)))
   ·cases e2
  ·cases h;exact yu
  ·cases h
end
end Sm
namespace L2
open PySem PySem.Spec PyProof.Rows
def fW (ns:List Int):List Int:=ns.mergeSort fun a b=>decide (a≤b)
theorem eO (ns:List Int):(fW ns).Perm ns:=List.mergeSort_perm _ _
theorem lL (ns:List Int):(fW ns).Pairwise (·≤·):=by
 have:=List.pairwise_mergeSort (le:=fun a b:Int=>decide (a≤b)) (fun a b c h1 h2=>by simp at h1 h2 ⊢;omega) (fun a b=>by simp;omega) ns
 exact this.imp fun h=>by simpa using h
theorem rH {ss ns:List Int} (hp:ss.Perm ns) (h:ss.Pairwise (·≤·)):ss=fW ns:=
 List.Perm.eq_of_pairwise (fun a b _ _ h1 h2=>Int.le_antisymm h1 h2) h (lL ns) (hp.trans (eO ns).symm)
section
variable {X:Cx}
theorem pE:dZ X (.builtin "sorted") (fun xs H Q=>∃a ss,xs=[.ref a]∧SqL X.K H a (ss.map V.int)∧ss.length < 64∧∀l,H l=none→Q (.ref l) (upd H l (.lst ((fW ss).map V.int)))):=by
 intro pins s σ H xs us Q I r h
 obtain ⟨a,ss,rfl,ha,h64,q⟩:=h
 obtain ⟨u,rfl,ru⟩:=vals1 r
 cases ru
 obtain ⟨its,rv,p,hz⟩:=I.list ha
 have hS:=intsAre_of rv
 have hlen:its.length=ss.length:=by have:=rv.length;rw [List.length_map] at this;exact this.symm
 refine sorted_ints p.isList hS (by omega) fun out ss' h1 h2 h3=>?_
 have:=rH h2 h3
 subst this
 have hl:s.heap.objs.size≤s.heap.objs.size+1:=Nat.le_succ _
 obtain ⟨e,ho⟩:=sortedAll_at s.heap its out
 have hz':((fW ss).map V.int).length≤sizeLine:=by rw [List.length_map,(eO ss).length_eq,sizeLine_eq];omega
 refine ⟨.ref (s.heap.objs.size+1),_,I.laid (t':=s.toks) (o:=.lst ((fW ss).map V.int)) (fun b o q=>sortedAll_old q) hl ⟨hz',out.toList,e,fN h1,?_⟩,rfl,q _ (I.hok.fresh hl)⟩
 rw [ho]
end
end L2
namespace Sm
open PySem L2 PySem.Spec PyProof.Rows
section
variable {X:Cx}
def sV:Fn:=fun ds h=>match ds with
 | [d]=>(eB d h).bind fun xs=>(jy xs).bind fun ns=>if ns.length < 64 then some (.lv ((fW ns).map D.int),h) else none
 | _=>none
theorem repL_ints' {K:PySem.W.Frag} {ρ:Ad} {H:Hp}:∀(ns:List Int),RepL K ρ H (ns.map V.int) (ns.map D.int)
 | []=>.nil
 | n::r=>.cons (.int n) (repL_ints' r)
theorem tG:fg X (.builtin "sorted") sV:=by
 intro pins s σ H xs us Q I r hh
 obtain ⟨ρ,h,ds,z,h',S,l,ee,k⟩:=hh
 match ds,l,ee with
 | [],_,ee=>cases ee
 | _::_::_,_,ee=>cases ee
 | [d],l,ee=>
  obtain ⟨v,rfl,rd⟩:=rep1 l
  obtain ⟨ys,e1,e2⟩:=bnd ee
  obtain ⟨ns,e3,e4⟩:=bnd e2
  by_cases c:ns.length < 64
  ·rw [if_pos c] at e4
   cases e4
   obtain ⟨a,vs,rfl,ha,la⟩:=dy S rd e1
   have:=nZ e3
   subst this
   have:=ji la
   subst this
   exact pE pins s σ H _ us Q I r ⟨a,ns,rfl,SqL.of ha,c,fun l hl=>k _ _ (.lv S (repL_ints' _) hl)⟩
  ·rw [if_neg c] at e4;cases e4
def pf (m:PrM):EM:=fun δ h=>(m δ h).bind fun p=>if p.1.length≤15 then some (.ob p.2.length,p.2++[.dct (oV [] p.1)]) else none
theorem rN {pos:Pos} {keys:List (Option Expr)} {vals:List Expr} {m:PrM} (h:SP X pos keys vals m) (hall:keys.all (·.isSome)=true) (hl:keys.length=vals.length) (h0:keys≠[]) (hp:∀trs,PPs X pos keys vals trs→PE X (.Dict keys vals pos) (rA trs)):SE X (.Dict keys vals pos) (pf m):=by
 obtain ⟨trs,h1,h2⟩:=h
 refine (hp trs h1).imp fun σ H Q ⟨ρ,δ,h,d,h',R,S,ee,k⟩ p hpn=>?_
 obtain ⟨⟨kvs,ha⟩,e1,e2⟩:=bnd ee
 dsimp only at e2
 by_cases z:kvs.length≤15
 ·rw [if_pos z] at e2
  cases e2
  have Tl:Ch ρ H (ρ.keep p) (upd H p (.dK [])):=Ch.keep hpn
  have nl:¬ρ.has p:=S.fresh hpn
  refine h2 σ _ _ ⟨ρ.keep p,δ,h,kvs,_,R.mono Tl,S.keep hpn,e1,fun us ρ2 H2 T2 S2 r2=>?_⟩
  have hp2:H2 p=some (.dK []):=(T2.res p List.mem_cons_self).trans aS
  refine ⟨hp2,us,rfl,by rw [r2.len];exact z,?_⟩
  obtain ⟨ob2,rs2⟩:=ρ2
  have ers:rs2=p::ρ.rs:=T2.rs
  subst ers
  have hml:p∈(⟨ob2,p::ρ.rs⟩:Ad).rs:=List.mem_cons_self
  have npo:p∉ob2:=(S2.rsv p hml).2
  have hne:∀b∈ρ.rs,b≠p:=fun b hb z=>nl (.inr (z ▸ hb))
  generalize hH3:upd H2 p (.dK (dW [] us))=H3
  have at3:∀b,b≠p→H3 b=H2 b:=fun b hb=>by rw [←hH3,aD hb]
  have C23:Ch ⟨ob2,p::ρ.rs⟩ H2 ⟨ob2++[p],ρ.rs⟩ H3:=by
   refine ⟨fun n a e=>?_,fun b o nb eb=>⟨fun z=>?_,?_⟩⟩
   ·show (ob2++[p])[n]?=_
    rw [List.getElem?_append_left (List.getElem?_eq_some_iff.mp e).1];exact e
   ·rcases z with z | z
    ·rcases List.mem_append.mp z with z | z
     ·exact nb (.inl z)
     ·exact nb (.inr (by rw [List.mem_singleton.mp z];exact List.mem_cons_self))
    ·exact nb (.inr (List.mem_cons_of_mem _ z))
   ·rw [at3 b (fun z=>nb (.inr (by rw [z];exact List.mem_cons_self)))];exact eb
  refine k _ _ ⟨⟨ob2++[p],ρ.rs⟩,⟨(Tl.trans T2.toCh).trans C23,rfl,fun b hb=>?_⟩,?_,.ob (by show (ob2++[p])[ha.length]?=_;rw [←S2.len];simp)⟩
  ·rw [at3 b (hne b hb),T2.res b (List.mem_cons_of_mem _ hb)]
   exact aD (hne b hb)
  ·refine ⟨by show (ob2++[p]).length=_;simp;exact S2.len,?_,fun n a x e1 e2=>?_,fun b hb=>?_⟩
   ·show (ob2++[p]).Nodup
    rw [List.nodup_append]
    exact ⟨S2.nd,by simp,fun a ha b hb z=>npo (by rw [←List.mem_singleton.mp hb,←z];exact ha)⟩
   ·have e1:(ob2++[p])[n]?=some a:=e1
    have hlen:ob2.length=ha.length:=S2.len
    by_cases hn:n < ob2.length
    ·rw [List.getElem?_append_left hn] at e1
     rw [List.getElem?_append_left (by omega)] at e2
     exact (S2.at_ n a x e1 e2).mono C23 (at3 a fun z=>npo (z ▸ List.mem_of_getElem? e1))
    ·have l1:=(List.getElem?_eq_some_iff.mp e1).1
     simp at l1
     have hn':n=ob2.length:=by omega
     subst hn'
     rw [List.getElem?_append_right (Nat.le_refl _)] at e1
     rw [List.getElem?_append_right (by omega),hlen] at e2
     simp at e1 e2
     subst e1;subst e2
     exact ⟨dW [] us,by rw [←hH3];exact aS,(RepK.merge .nil r2).mono C23⟩
   ·obtain ⟨⟨o,eo⟩,nb⟩:=S2.rsv b (List.mem_cons_of_mem _ hb)
    refine ⟨⟨o,by rw [at3 b (hne b hb)];exact eo⟩,fun z=>?_⟩
    rcases List.mem_append.mp z with z | z
    ·exact nb z
    ·exact hne b hb (List.mem_singleton.mp z)
 ·rw [if_neg z] at e2;cases e2
end
end Sm
namespace Sm
open PySem L2 PySem.Spec PyProof.Rows
section
variable {X:Cx}
def u6 (d e:D) (h:MH):Option (D×MH):=match e with
 | .int n=>(eB d h).bind fun xs=>if 0≤n∧n≤1000∧xs.length≤1000 then some (.lv (List.replicate n.toNat xs).flatten,h) else none
 | _=>none
theorem RepL.rep {K:PySem.W.Frag} {ρ:Ad} {H:Hp} {vs:List V} {ds:List D} (h:RepL K ρ H vs ds):∀k:Nat,RepL K ρ H (List.replicate k vs).flatten (List.replicate k ds).flatten
 | 0=>.nil
 | k+1=>by
  rw [List.replicate_succ,List.replicate_succ,List.flatten_cons,List.flatten_cons]
  exact h.append (RepL.rep h k)
theorem sD:OpS X (binaryOp .Mult) u6:=by
 intro pins s σ H x y v u Q I rx ry hh
 obtain ⟨ρ,h,d,e,z,h',S,rd,re,ee,k⟩:=hh
 cases e <;> first | (cases ee;done) | skip
 rename_i n
 obtain ⟨xs,e1,e2⟩:=bnd (show (eB d h).bind _=_ from ee)
 by_cases c:0≤n∧n≤1000∧xs.length≤1000
 ·rw [if_pos c] at e2
  cases e2
  obtain ⟨a,vs,rfl,ha,la⟩:=dy S rd e1
  cases re
  have hb:xs.length*n.toNat≤1000*1000:=Nat.mul_le_mul c.2.2 (by omega)
  exact xc pins s σ H _ _ v u Q I rx ry ⟨a,n,vs,rfl,rfl,ha,by omega,by omega,by rw [la.length,show sizeLine=16777216 from rfl];omega,fun l hl=>k _ _ (.lv S (la.rep _) hl)⟩
 ·rw [if_neg c] at e2;cases e2
end
end Sm
namespace L2
open PySem PySem.Spec PyProof.Rows
theorem kr:∀(us:List Value) (o:Nat),(∀(j:Nat) v,us[j]?=some v→∃t,v=.int ((o:Int)+j) t)→Vals ((List.range' o us.length).map fun (k:Nat)=>V.int k) us
 | [],_,_=>.nil
 | u::r,o,h=>by
  rw [List.length_cons,List.range'_succ,List.map_cons]
  obtain ⟨t,e⟩:=h 0 u rfl
  refine .cons ⟨t,by rw [e];simp⟩ (kr r (o+1) fun j v hv=>?_)
  obtain ⟨t,e⟩:=h (j+1) v (by simpa using hv)
  exact ⟨t,by rw [e];congr 1;omega⟩
section
variable {X:Cx}
theorem qw {a:Expr} {ta:TA} {p p2 pos pos2:Pos} (hc:X.calm=true) (hg1:Gl X "list") (hm1:X.mg "list"=none) (hg2:Gl X "range") (hm2:X.mg "range"=none) (hv:bootBuiltins "list"=some (.type "list")) (ha:PA X [a] ta) (hs:starEach [a] X.env=[(false,eval a X.env)]):
  PE X (.Call (.Name "list" p) [.Call (.Name "range" p2) [a] [] pos2] [] pos) (fun σ H Q=>ta σ H fun vs H1=>∃j:Int,vs=[.int j]∧0≤j∧j≤1000∧∀l,H1 l=none→Q (.ref l) (upd H1 l (.lst ((List.range j.toNat).map fun (k:Nat)=>V.int k)))):=by
 intro pins s σ H Q I h
 refine wpAny_Call_Name_kw (fI I hg1 hm1 hv ?_)
 refine PyProof.Rows.callWith_type1 ?_ rfl rfl
 show wpAny _ _ (spliced ((false,eval (.Call (.Name "range" p2) [a] [] pos2) X.env)::backTo pos (starEach [] X.env))) _ _ s
 refine Calls.spliced_cons ?_
 refine wpAny_Call_Name_kw (fI I hg2 hm2 boot_range (PyProof.Rows.callWith_type1 (thn (ha pos2 pins s σ H _ I h) fun us s1 ⟨vs,H1,I1,r1,q1⟩=>?_) hs rfl))
 obtain ⟨j,e,j0,j1,q⟩:=q1
 subst e
 cases r1 with
 | cons r rr=>
  cases rr
  obtain ⟨t,rfl⟩:=r
  refine call_range_1 ?_
  have I2:Inv X pins σ H1 {s1 with heap:=s1.heap.push {cls:=.type "range",data:=.fields #[.int 0 s1.toks,.int j t,.int 1 (s1.toks+1)]},toks:=s1.toks+1+1}:=I1.kept fun b o e=>Heap.get?_push_of_some _ e
  refine Calls.spliced_nil ?_
  refine call_list_range (n:=j.toNat) (I1.ok.hd hc) (IsRange.new ..) (small_one (by omega) (by omega) (by omega) (by omega)) (by rw [rangeSize_one];split <;> omega) (by omega) fun h' tk acc' c' hk hS' hacc=>?_
  have hlen:acc'.toList.length=j.toNat:=by rw [Array.length_toList];exact hacc.1
  have hv:Vals ((List.range j.toNat).map fun (k:Nat)=>V.int k) acc'.toList:=by
   have:=kr acc'.toList 0 fun i v hv=>by
    obtain ⟨t,e⟩:=hacc.2 i v (by simpa using hv)
    exact ⟨t,by rw [e];congr 1;simp⟩
   rw [hlen] at this
   rw [List.range_eq_range']
   exact this
  refine ⟨.ref _,_,I2.laid (t':=tk) (o:=.lst ((List.range j.toNat).map fun (k:Nat)=>V.int k)) hk (Nat.le_refl _) ⟨by rw [List.length_map,List.length_range,sizeLine_eq];omega,acc'.toList,c',hv,?_⟩,rfl,q _ (I2.hok.fresh (Nat.le_refl _))⟩
  rw [hS']
end
end L2
namespace Sm
open PySem L2 PySem.Spec PyProof.Rows
section
variable {X:Cx} {a b:Expr} {pos:Pos} {ma mb:EM}
def xS (m:AM):AM:=fun δ h=>(m δ h).bind fun p=>match p.1 with
 | [.int j]=>if 0≤j∧j≤1000 then some ((List.range j.toNat).map fun (k:Nat)=>D.int k,p.2) else none
 | _=>none
theorem jh {K:PySem.W.Frag} {ρ:Ad} {H:Hp}:∀l:List Nat,RepL K ρ H (l.map fun (k:Nat)=>V.int k) (l.map fun (k:Nat)=>D.int k)
 | []=>.nil
 | n::r=>.cons (.int n) (jh r)
theorem qo {m:AM} {p p2 pos2:Pos} (hc:X.calm=true) (hg1:Gl X "list") (hm1:X.mg "list"=none) (hg2:Gl X "range") (hm2:X.mg "range"=none) (hv:bootBuiltins "list"=some (.type "list")) (ha:SA X [a] m) (hs:starEach [a] X.env=[(false,eval a X.env)]:=by kernel_rfl):
  SFL X (.Call (.Name "list" p) [.Call (.Name "range" p2) [a] [] pos2] [] pos) (xS m):=(qw hc hg1 hm1 hg2 hm2 hv ha hs).imp fun σ H Q ⟨ρ,δ,h,ds,h',R,S,e,k⟩=>by
 obtain ⟨⟨xs,h1⟩,e1,e2⟩:=bnd e
 dsimp only at e2
 split at e2
 ·rename_i j
  split at e2
  ·rename_i c
   cases e2
   refine ⟨ρ,δ,h,_,_,R,S,e1,fun vs ρ1 H1 T1 S1 r1=>?_⟩
   obtain ⟨v,rfl,rd⟩:=rep1 r1
   cases rd
   exact ⟨j,rfl,c.1,c.2,fun l hl=>k ρ1 H1 l _ T1 S1 hl (jh _)⟩
  ·cases e2
 ·cases e2
def xT (ma mb:EM):AM:=fun δ h=>(ma δ h).bind fun p=>(mb δ p.2).bind fun q=>(eB p.1 q.2).bind fun xs=>(eB q.1 q.2).bind fun ys=>if xs.length+ys.length≤sizeLine then some (xs++ys,q.2) else none
theorem vP (ha:SE X a ma) (hb:SE X b mb):SFL X (.BinOp a .Add b pos) (xT ma mb):=(vz sI ha hb).imp fun σ H Q ⟨ρ,δ,h,ds,h',R,S,e,k⟩=>by
 obtain ⟨⟨x,h1⟩,e1,e2⟩:=bnd e
 obtain ⟨⟨y,h2⟩,e3,e4⟩:=bnd e2
 obtain ⟨xs,e5,e6⟩:=bnd e4
 obtain ⟨ys,e7,e8⟩:=bnd e6
 dsimp only at e3 e5 e7
 split at e8
 ·rename_i c
  cases e8
  refine ⟨ρ,δ,h,x,h1,R,S,e1,fun v H1 ⟨ρ1,T1,S1,r1⟩=>⟨ρ1,δ,h1,y,h2,R.mono T1.toCh,S1,e3,fun u H2 ⟨ρ2,T2,S2,r2⟩=>?_⟩⟩
  obtain ⟨a,vs,rfl,hA,lA⟩:=dy S2 (r1.mono T2.toCh) e5
  obtain ⟨b,us,rfl,hB,lB⟩:=dy S2 r2 e7
  exact ⟨a,b,vs,us,rfl,rfl,hA,hB,by rw [lA.length,lB.length];exact c,fun p hp=>k ρ2 H2 p (vs++us) (T1.trans T2) S2 hp (lA.append lB)⟩
 ·cases e8
end
end Sm
namespace Sm
open PySem L2
theorem vc (a b:Bool) (h:MH):de (.bl a) (.bl b) h=some (.bl (a==b),h):=rfl
theorem jm:∀cs:List Int,pyL (cs.map D.int)=some (cs.map PyData.int)
 | []=>rfl
 | c::r=>by simp only [List.map_cons,pyL,pyD,jm r,Option.bind_some,Option.map_some]
theorem gx:∀cs:List Int,PyData.depthAll (cs.map PyData.int)=0
 | []=>rfl
 | c::r=>by simp only [List.map_cons,PyData.depthAll,gx r,PyData.depth];rfl
theorem qO {h:MH} {c:Nat} {cs:List Int} (hc:h[c]?=some (.lst (cs.map D.int))):fJ (.ob c) (.lv []) h=some (.bl (!cs.isEmpty),h):=by
 simp only [fJ,eqA,df,hc,eqD,rdD,jm,pyD,pyL,Option.map_some,Option.bind_some,PyData.depth,gx]
 cases cs <;> rfl
theorem fL {h:MH} {n:Nat} {xs:List D} {i:Int} {d:D} (hn:h[n]?=some (.lst xs)) (e:atI xs i=some d):fIx (.ob n) (.int i) h=some (d,h):=by
 simp only [fIx,df,hn,cH,Option.bind_some,e,Option.map_some]
theorem p0 {h:MH} {n:Nat} {xs:List D} (hn:h[n]?=some (.lst xs)):dB [.ob n] h=some (.int xs.length,h):=by
 simp only [dB,df,hn,cH,Option.map_some]
theorem mI {h:MH} {n:Nat} {xs:List D} {i:Int} {p:Nat} {d:D} (hn:h[n]?=some (.lst xs)) (e:ixN xs.length i=some p):kg (.ob n) (.int i) d h=some (h.set n (.lst (xs.set p d))):=by
 simp only [kg,hn,e,Option.map_some]
theorem t4 (cs:List Int) (i:Int) (h0:0≤i) (h1:i < cs.length):∃z,atI (cs.map D.int) i=some (.int z):=by
 have hlt:i.toNat < cs.length:=by omega
 refine ⟨cs[i.toNat]'hlt,?_⟩
 have e:((i.toNat:Nat):Int)=i:=Int.toNat_of_nonneg h0
 have q:atI (cs.map D.int) ((i.toNat:Nat):Int)=some (D.int (cs[i.toNat]'hlt)):=nu (by rw [List.getElem?_map,List.getElem?_eq_getElem hlt];rfl)
 rw [e] at q
 exact q
theorem tY {α:Type} {xs:List α} {i:Int} (h0:0≤i) (h1:i < xs.length):∃v,atI xs i=some v∧v∈xs:=by
 have hlt:i.toNat < xs.length:=by omega
 have e:((i.toNat:Nat):Int)=i:=Int.toNat_of_nonneg h0
 have q:atI xs ((i.toNat:Nat):Int)=some (xs[i.toNat]'hlt):=nu (List.getElem?_eq_getElem hlt)
 rw [e] at q
 exact ⟨_,q,List.getElem_mem hlt⟩
end Sm
namespace Sm
open PySem
def Rn {α:Type} (o:Option α) (Q:α→Prop):Prop:=∃a,o=some a∧Q a
theorem rv {α:Type} {o:Option α} {a:α} {Q:α→Prop} (e:o=some a) (q:Q a):Rn o Q:=⟨a,e,q⟩
theorem Rn.imp {α:Type} {o:Option α} {Q Q':α→Prop} (r:Rn o Q) (f:∀a,Q a→Q' a):Rn o Q':=let ⟨a,e,q⟩:=r;⟨a,e,f a q⟩
theorem aO {α β:Type} {o:Option α} {f:α→Option β} {Q:β→Prop} (r:Rn o fun a=>Rn (f a) Q):Rn (o.bind f) Q:=by
 obtain ⟨a,e,b,e2,q⟩:=r
 exact ⟨b,by rw [e];exact e2,q⟩
theorem uq {α β:Type} {o:Option α} {f:α→β} {Q:β→Prop} (r:Rn o fun a=>Q (f a)):Rn (o.map f) Q:=by
 obtain ⟨a,e,q⟩:=r
 exact ⟨f a,by rw [e];rfl,q⟩
section
variable {δ:DS} {h:MH}
theorem yx {i:Nat} {d:D} {Q:D×MH→Prop} (e:δ[i]?=some (some d)) (q:Q (d,h)):Rn (af i δ h) Q:=⟨(d,h),by unfold af;rw [e];rfl,q⟩
theorem r_k {d:D} {Q:D×MH→Prop} (q:Q (d,h)):Rn (eK d δ h) Q:=⟨_,rfl,q⟩
theorem wj {f:D→D→MH→Option (D×MH)} {a b:EM} {Q:D×MH→Prop} (r:Rn (a δ h) fun p=>Rn (b δ p.2) fun q=>Rn (f p.1 q.1 q.2) Q):Rn (eOp f a b δ h) Q:=aO (r.imp fun _ r=>aO r)
theorem zw {f:D→MH→Option (D×MH)} {a:EM} {Q:D×MH→Prop} (r:Rn (a δ h) fun p=>Rn (f p.1 p.2) Q):Rn (eUn f a δ h) Q:=aO r
theorem yG {Q:List D×MH→Prop} (q:Q ([],h)):Rn (aj δ h) Q:=⟨_,rfl,q⟩
theorem wt {a:EM} {m:AM} {Q:List D×MH→Prop} (r:Rn (a δ h) fun p=>Rn (m δ p.2) fun q=>Q (p.1::q.1,q.2)):Rn (ae a m δ h) Q:=aO (r.imp fun _ r=>aO (r.imp fun _ q=>⟨_,rfl,q⟩))
theorem zE {f:Fn} {m:AM} {Q:D×MH→Prop} (r:Rn (m δ h) fun p=>Rn (f p.1 p.2) Q):Rn (eFn f m δ h) Q:=aO r
theorem zB {t:TM} {a b:EM} {Q:D×MH→Prop} (r:Rn (t δ h) fun p=>(p.1=true→Rn (a δ p.2) Q)∧(p.1=false→Rn (b δ p.2) Q)):Rn (eIf t a b δ h) Q:=aO (r.imp fun p ⟨q1,q2⟩=>by
 obtain ⟨c,h⟩:=p
 cases c with
 | true=>exact q1 rfl
 | false=>exact q2 rfl)
theorem wx {a:EM} {Q:Bool×MH→Prop} (r:Rn (a δ h) fun p=>∃c,p.1=.bl c∧Q (c,p.2)):Rn (aY a δ h) Q:=aO (r.imp fun p ⟨c,e,q⟩=>⟨(c,p.2),by rw [e],q⟩)
theorem wa {a:EM} {Q:Bool×MH→Prop} (r:Rn (a δ h) fun p=>∃c,rp p.1 p.2=some c∧Q (c,p.2)):Rn (jT a δ h) Q:=aO (r.imp fun p ⟨c,e,q⟩=>⟨(c,p.2),by rw [e];rfl,q⟩)
theorem wb {t:TM} {Q:Bool×MH→Prop} (r:Rn (t δ h) fun p=>Q (!p.1,p.2)):Rn (Sm.oC t δ h) Q:=uq r
theorem wc {a b:TM} {Q:Bool×MH→Prop} (r:Rn (a δ h) fun p=>(p.1=true→Rn (b δ p.2) Q)∧(p.1=false→Q (false,p.2))):Rn (Sm.iJ a b δ h) Q:=aO (r.imp fun p ⟨q1,q2⟩=>by
 obtain ⟨c,h⟩:=p
 cases c with
 | true=>exact q1 rfl
 | false=>exact ⟨_,rfl,q2 rfl⟩)
theorem yz {a b:TM} {Q:Bool×MH→Prop} (r:Rn (a δ h) fun p=>(p.1=true→Q (true,p.2))∧(p.1=false→Rn (b δ p.2) Q)):Rn (Sm.tOr a b δ h) Q:=aO (r.imp fun p ⟨q1,q2⟩=>by
 obtain ⟨c,h⟩:=p
 cases c with
 | true=>exact ⟨_,rfl,q1 rfl⟩
 | false=>exact q2 rfl)
theorem yK {a b:EM} {Q:D×MH→Prop} (r:Rn (a δ h) fun p=>∃c,p.1=.bl c∧(c=true→Rn (b δ p.2) Q)∧(c=false→Q (.bl false,p.2))):Rn (ph a b δ h) Q:=aO (r.imp fun p ⟨c,e,q1,q2⟩=>by
 rw [e]
 cases c with
 | true=>exact q1 rfl
 | false=>exact ⟨_,rfl,q2 rfl⟩)
theorem zy {a b:EM} {Q:D×MH→Prop} (r:Rn (a δ h) fun p=>∃c,p.1=.bl c∧(c=true→Q (.bl true,p.2))∧(c=false→Rn (b δ p.2) Q)):Rn (eOr a b δ h) Q:=aO (r.imp fun p ⟨c,e,q1,q2⟩=>by
 rw [e]
 cases c with
 | true=>exact ⟨_,rfl,q1 rfl⟩
 | false=>exact q2 rfl)
theorem yF {a:EM} {Q:D×MH→Prop} (r:Rn (a δ h) fun p=>∃c,p.1=.bl c∧Q (.bl (!c),p.2)):Rn (xK a δ h) Q:=aO (r.imp fun p ⟨c,e,q⟩=>⟨_,by rw [e],q⟩)
theorem zA {m:AM} {Q:D×MH→Prop} (r:Rn (m δ h) fun p=>Q (.lv p.1,p.2)):Rn (eLv m δ h) Q:=uq r
theorem zz {m:AM} {Q:D×MH→Prop} (r:Rn (m δ h) fun p=>Q (.ob p.2.length,p.2++[.lst p.1])):Rn (eOb m δ h) Q:=uq r
theorem zF {Q:D×MH→Prop} (q:Q (.dv [],h)):Rn (eDv δ h) Q:=⟨_,rfl,q⟩
theorem zG {Q:D×MH→Prop} (q:Q (.ob h.length,h++[.dct []])):Rn (eDo δ h) Q:=⟨_,rfl,q⟩
theorem oJ {m:AM} {Q:List D×MH→Prop} (r:Rn (m δ h) fun p=>∃d xs ws,p.1=[d]∧cH d p.2=some (xs,ws)∧Q (xs,p.2)):Rn (lH m δ h) Q:=aO (r.imp fun p ⟨d,xs,ws,e,e2,q⟩=>⟨(xs,p.2),by rw [e];dsimp only;rw [e2];rfl,q⟩)
theorem yC {Q:Option Int×MH→Prop} (q:Q (none,h)):Rn (pNo δ h) Q:=⟨_,rfl,q⟩
theorem yD {a:EM} {Q:Option Int×MH→Prop} (r:Rn (a δ h) fun p=>∃i,p.1=.int i∧Q (some i,p.2)):Rn (pAt a δ h) Q:=aO (r.imp fun p ⟨c,e,q⟩=>⟨_,by rw [e],q⟩)
theorem zx {a:EM} {l u:PM} {Q:D×MH→Prop} (r:Rn (a δ h) fun p=>Rn (l δ p.2) fun q=>Rn (u δ q.2) fun r=>Rn (fSl p.1 q.1 r.1 r.2) Q):Rn (eSl a l u δ h) Q:=aO (r.imp fun _ r=>aO (r.imp fun _ r=>aO r))
abbrev SQ:=Fl×DS×MH→Prop
theorem we {Q:SQ} (q:Q (.nx,δ,h)):Rn (cV δ h) Q:=⟨_,rfl,q⟩
theorem wg {Q:SQ} (q:Q (.bk,δ,h)):Rn (zv δ h) Q:=⟨_,rfl,q⟩
theorem ux {Q:SQ} (q:Q (.ct,δ,h)):Rn (yw δ h) Q:=⟨_,rfl,q⟩
def kz (b:SM) (Q:SQ):SQ:=fun r=>match r.1 with
 | .nx=>Rn (b r.2.1 r.2.2) Q
 | _=>Q r
theorem nK {a b:SM} {Q:SQ} (r:Rn (a δ h) (kz b Q)):Rn (ax a b δ h) Q:=aO (r.imp fun p q=>by
 obtain ⟨f,δ',h'⟩:=p
 cases f with
 | nx=>exact q
 | bk=>exact ⟨_,rfl,q⟩
 | ct=>exact ⟨_,rfl,q⟩
 | rt d=>exact ⟨_,rfl,q⟩)
theorem yA {i:Nat} {e:EM} {Q:SQ} (r:Rn (e δ h) fun p=>Q (.nx,δ.set i (some p.1),p.2)):Rn (bc i e δ h) Q:=aO (r.imp fun _ q=>⟨_,rfl,q⟩)
theorem yJ {e:EM} {g:GM} {Q:SQ} (r:Rn (e δ h) fun p=>Rn (g p.1 δ p.2) fun q=>Q (.nx,q.1,q.2)):Rn (je e g δ h) Q:=aO (r.imp fun _ r=>aO (r.imp fun _ q=>⟨_,rfl,q⟩))
theorem wq {e:EM} {Q:SQ} (r:Rn (e δ h) fun p=>Q (.nx,δ,p.2)):Rn (d9 e δ h) Q:=aO (r.imp fun _ q=>⟨_,rfl,q⟩)
theorem yB {e:EM} {Q:SQ} (r:Rn (e δ h) fun p=>Q (.rt p.1,δ,p.2)):Rn (bL e δ h) Q:=aO (r.imp fun _ q=>⟨_,rfl,q⟩)
theorem vw {t:TM} {a b:SM} {Q:SQ} (r:Rn (t δ h) fun p=>(p.1=true→Rn (a δ p.2) Q)∧(p.1=false→Rn (b δ p.2) Q)):Rn (sIf t a b δ h) Q:=aO (r.imp fun p ⟨q1,q2⟩=>by
 obtain ⟨c,h⟩:=p
 cases c with
 | true=>exact q1 rfl
 | false=>exact q2 rfl)
theorem yE {i j:Nat} {m:AM} {Q:SQ} (r:Rn (m δ h) fun p=>∃a b,p.1=[a,b]∧Q (.nx,(δ.set i (some a)).set j (some b),p.2)):Rn (rQ i j m δ h) Q:=aO (r.imp fun p ⟨a,b,e,q⟩=>⟨_,by rw [e],q⟩)
theorem zD {i:Nat} {d:D} {Q:DS×MH→Prop} (q:Q (δ.set i (some d),h)):Rn (gN i d δ h) Q:=⟨_,rfl,q⟩
theorem wm {o i:EM} {v:D} {Q:DS×MH→Prop} (r:Rn (o δ h) fun p=>Rn (i δ p.2) fun q=>Rn (kg p.1 q.1 v q.2) fun h'=>Q (δ,h')):Rn (Sm.ke o i v δ h) Q:=aO (r.imp fun _ r=>aO (r.imp fun _ r=>uq r))
theorem zC {n:Nat} {u:GMs} {xs:List D} {Q:DS×MH→Prop} (hn:xs.length=n) (r:Rn (u xs δ h) Q):Rn (gT n u (.tup xs) δ h) Q:=by
 unfold gT;dsimp only;rw [if_pos hn];exact r
theorem se {g:GM} {u:GMs} {d:D} {xs:List D} {Q:DS×MH→Prop} (r:Rn (g d δ h) fun p=>Rn (u xs p.1 p.2) Q):Rn (aU g u (d::xs) δ h) Q:=aO r
theorem uy {Q:DS×MH→Prop} (q:Q (δ,h)):Rn (dN [] δ h) Q:=⟨_,rfl,q⟩
end
def ur (Q:D×MH→Prop):SQ:=fun r=>match r.1 with
 | .rt d=>Q (d,r.2.2)
 | .nx=>Q (.non,r.2.2)
 | _=>False
theorem zT {Q:D×MH→Prop} {d:D} {δ:DS} {h:MH} (q:Q (d,h)):ur Q (.rt d,δ,h):=q
theorem zU {Q:D×MH→Prop} {δ:DS} {h:MH} (q:Q (.non,h)):ur Q (.nx,δ,h):=q
theorem zh {b:SM} {Q:SQ} {δ:DS} {h:MH} (r:Rn (b δ h) Q):kz b Q (.nx,δ,h):=r
theorem zg {b:SM} {Q:SQ} {d:D} {δ:DS} {h:MH} (q:Q (.rt d,δ,h)):kz b Q (.rt d,δ,h):=q
theorem zj {b:SM} {Q:SQ} {δ:DS} {h:MH} (q:Q (.bk,δ,h)):kz b Q (.bk,δ,h):=q
theorem zi {b:SM} {Q:SQ} {δ:DS} {h:MH} (q:Q (.ct,δ,h)):kz b Q (.ct,δ,h):=q
def kQ (I:DS→MH→Prop) (Q:SQ):SQ:=fun z=>match z.1 with
 | .nx=>I z.2.1 z.2.2
 | .ct=>I z.2.1 z.2.2
 | .bk=>Q (.nx,z.2.1,z.2.2)
 | .rt d=>Q (.rt d,z.2.1,z.2.2)
theorem zZ {I:DS→MH→Prop} {Q:SQ} {δ:DS} {h:MH} (q:I δ h):kQ I Q (.nx,δ,h):=q
theorem z6 {I:DS→MH→Prop} {Q:SQ} {δ:DS} {h:MH} (q:I δ h):kQ I Q (.ct,δ,h):=q
theorem z7 {I:DS→MH→Prop} {Q:SQ} {δ:DS} {h:MH} (q:Q (.nx,δ,h)):kQ I Q (.bk,δ,h):=q
theorem zY {I:DS→MH→Prop} {Q:SQ} {d:D} {δ:DS} {h:MH} (q:Q (.rt d,δ,h)):kQ I Q (.rt d,δ,h):=q
theorem dA {len:Nat} {b:SM} {ds:List D} {h:MH} {Q:D×MH→Prop} (r:Rn (b (entry len ds) h) (ur Q)):Rn (mkF len b ds h) Q:=aO (r.imp fun p q=>by
 obtain ⟨f,δ',h'⟩:=p
 cases f with
 | nx=>exact ⟨_,rfl,q⟩
 | rt d=>exact ⟨_,rfl,q⟩
 | bk=>exact q.elim
 | ct=>exact q.elim)
theorem yI {i:IM} {g:GM} {b:SM} {δ:DS} {h:MH} {Q:SQ} (r:Rn (i δ h) fun p=>Rn (gK p.2.1 g b p.1 δ p.2.2) Q):Rn (gi i g b δ h) Q:=aO r
theorem dI {ws:W} {g:GM} {b:SM} {Q:SQ}:∀{xs:List D} {δ:DS} {h:MH} (I:Nat→DS→MH→Prop),I 0 δ h→(∀i δ h,i≤xs.length→I i δ h→chk ws h=true)→
  (∀i x δ h,xs[i]?=some x→I i δ h→Rn (g x δ h) fun q=>Rn (b q.1 q.2) (kQ (I (i+1)) Q))→(∀δ h,I xs.length δ h→Q (.nx,δ,h))→Rn (gK ws g b xs δ h) Q
 | [],δ,h,I,h0,hc,_,hq=>by
  unfold gK
  rw [if_pos (hc 0 δ h (Nat.le_refl _) h0)]
  exact ⟨_,rfl,hq δ h h0⟩
 | x::xs,δ,h,I,h0,hc,ht,hq=>by
  unfold gK
  rw [if_pos (hc 0 δ h (Nat.zero_le _) h0)]
  obtain ⟨q,e1,z,e2,hz⟩:=ht 0 x δ h rfl h0
  rw [e1]
  show Rn ((b q.1 q.2).bind _) Q
  rw [e2]
  obtain ⟨f,δ',h'⟩:=z
  have next:I 1 δ' h'→Rn (gK ws g b xs δ' h') Q:=fun hi=>dI (fun i=>I (i+1)) hi (fun i δ h hl=>hc (i+1) δ h (Nat.succ_le_succ hl)) (fun i x δ h hx=>ht (i+1) x δ h (by simpa using hx)) hq
  cases f with
  | nx=>exact next hz
  | ct=>exact next hz
  | bk=>exact ⟨_,rfl,hz⟩
  | rt d=>exact ⟨_,rfl,hz⟩
theorem eA {e:EM} {δ:DS} {h:MH} {Q:List D×W×MH→Prop} (r:Rn (e δ h) fun p=>∃xs ws,cH p.1 p.2=some (xs,ws)∧Q (xs,ws,p.2)):Rn (ij e δ h) Q:=aO (r.imp fun p ⟨xs,ws,e,q⟩=>⟨(xs,ws,p.2),by rw [e];rfl,q⟩)
theorem fE {m:AM} {δ:DS} {h:MH} {Q:List D×W×MH→Prop} (r:Rn (m δ h) fun p=>∃j:Int,p.1=[.int j]∧-(2^62)≤j∧j < 2^62∧Q ((List.range j.toNat).map fun (k:Nat)=>D.int (k:Int),[],p.2)):Rn (kd m δ h) Q:=aO (r.imp fun p ⟨j,e,h1,h2,q⟩=>by
 rw [e];dsimp only;rw [if_pos ⟨h1,h2⟩];exact ⟨_,rfl,q⟩)
theorem wk {m:AM} {δ:DS} {h:MH} {Q:List D×W×MH→Prop} (r:Rn (m δ h) fun p=>∃d e xs ys ws ws',p.1=[d,e]∧cH d p.2=some (xs,ws)∧cH e p.2=some (ys,ws')∧Q (gW xs ys,ws++ws',p.2)):Rn (xD m δ h) Q:=
 aO (r.imp fun p ⟨d,e,xs,ys,ws,ws',e1,e2,e3,q⟩=>⟨_,by rw [e1];dsimp only;rw [e2];dsimp only [Option.bind_some];rw [e3];rfl,q⟩)
theorem gF {m:AM} {δ:DS} {h:MH} {Q:List D×W×MH→Prop} (r:Rn (m δ h) fun p=>∃d xs ws,p.1=[d]∧cH d p.2=some (xs,ws)∧Q (fZ 0 xs,ws,p.2)):Rn (jz m δ h) Q:=
 aO (r.imp fun p ⟨d,xs,ws,e1,e2,q⟩=>⟨_,by rw [e1];dsimp only;rw [e2];rfl,q⟩)
theorem wu {caps:List (Option Nat)} {i:IM} {g:GM} {c:TM} {e:EM} {δ:DS} {h:MH} {Q:List D×MH→Prop} (r:Rn (i δ h) fun p=>Rn (cm p.2.1 g c e p.1 (lu caps δ) p.2.2) fun q=>q.1.length≤sizeLine∧Q q):Rn (dC caps i g c e δ h) Q:=
 aO (r.imp fun p r=>aO (r.imp fun q ⟨hz,hq⟩=>⟨q,by rw [if_pos hz],hq⟩))
theorem mj {ws:W} {g:GM} {c:TM} {e:EM} {h:MH} (hc:chk ws h=true) (f:D→Option D) (J:DS→Prop):∀{xs:List D} {δ:DS},J δ→
  (∀x∈xs,∀δ,J δ→Rn (g x δ h) fun q=>q.2=h∧Rn (c q.1 h) fun t=>t.2=h∧J q.1∧(t.1=true→∃y,f x=some y∧Rn (e q.1 h) fun p=>p=(y,h))∧(t.1=false→f x=none))→
  cm ws g c e xs δ h=some (xs.filterMap f,h)
 | [],δ,_,_=>by unfold cm;rw [if_pos hc];rfl
 | x::xs,δ,hJ,ht=>by
  unfold cm
  rw [if_pos hc]
  obtain ⟨⟨δ1,h1⟩,e1,rfl,⟨t,h2⟩,e2,rfl,J1,q1,q2⟩:=ht x List.mem_cons_self δ hJ
  rw [e1]
  dsimp only [Option.bind_some] at e2 q1 q2 ⊢
  rw [e2]
  dsimp only [Option.bind_some]
  have ih:=mj hc f J J1 (xs:=xs) fun y hy=>ht y (List.mem_cons_of_mem _ hy)
  cases t with
  | true=>
   obtain ⟨y,ef,p,ep,rfl⟩:=q1 rfl
   rw [if_pos rfl,ep]
   dsimp only [Option.bind_some]
   rw [ih,List.filterMap_cons,ef];rfl
  | false=>
   rw [if_neg (by simp),ih,List.filterMap_cons,q2 rfl]
end Sm
namespace Sm
open PySem
end Sm
namespace Sm
theorem r8 {δ:DS} {h:MH} {i:Nat} {d:D} {Q:D×MH→Prop} (q:Q (d,h)) (e:δ[i]?=some (some d):=by with_unfolding_all rfl):Rn (af i δ h) Q:=yx e q
theorem vy {δ:DS} {h:MH} {n:Nat} {u:GMs} {xs:List D} {Q:DS×MH→Prop} (r:Rn (u xs δ h) Q) (hn:xs.length=n:=by with_unfolding_all rfl):Rn (gT n u (.tup xs) δ h) Q:=zC hn r
end Sm
namespace Sm
open PySem L2
section
variable {δ:DS} {h:MH}
theorem mh {m s:EM} {Q:D×MH→Prop} (hh:Rn (m δ h) fun p=>Rn (s δ p.2) fun q=>q.1=.int (-1)∧∃xs ws,cH p.1 q.2=some (xs,ws)∧Q (if iN p.1=true then .lv xs.reverse else .tup xs.reverse,q.2)):Rn (jE m s δ h) Q:=
 aO (hh.imp fun p x=>aO (x.imp fun q ⟨e1,xs,ws,e2,k⟩=>by rw [e1];show Rn (if (-1:Int)=-1 then _ else _) Q;rw [if_pos rfl,e2];exact ⟨_,rfl,k⟩))
theorem oK {a:EM} {l u:PM} {Q:D×MH→Prop} (hh:Rn (a δ h) fun p=>Rn (l δ p.2) fun q=>Rn (u δ q.2) fun r=>Rn (o8 p.1 q.1 r.1 r.2) Q):Rn (mN a l u δ h) Q:=aO (hh.imp fun _ x=>aO (x.imp fun _ y=>aO y))
end
end Sm
namespace Sm
open PySem L2
section
variable {h:MH} {Q:D×MH→Prop} {a b:Int} {x y:Str} {d e f g:D} {r:List D}
theorem x4 {ds:List D} (q:Q (.tup ds,h)):Rn (bg ds h) Q:=⟨_,rfl,q⟩
theorem x5 (q:Q (.int (-a),h)):Rn (iI (.int a) h) Q:=⟨_,rfl,q⟩
theorem w_add (q:Q (.int (a+b),h)):Rn (aV (.int a) (.int b) h) Q:=⟨_,rfl,q⟩
theorem w_sub (q:Q (.int (a-b),h)):Rn (o7 (.int a) (.int b) h) Q:=⟨_,rfl,q⟩
theorem w_lt (q:Q (.bl (decide (a < b)),h)):Rn (fLt (.int a) (.int b) h) Q:=⟨_,rfl,q⟩
theorem zd (q:Q (.bl (decide (a≤b)),h)):Rn (fLe (.int a) (.int b) h) Q:=⟨_,rfl,q⟩
theorem ze (q:Q (.bl (decide (b < a)),h)):Rn (fGt (.int a) (.int b) h) Q:=⟨_,rfl,q⟩
theorem zf (q:Q (.bl (decide (b≤a)),h)):Rn (fGe (.int a) (.int b) h) Q:=⟨_,rfl,q⟩
theorem ye (q:Q (.bl (a==b),h)):Rn (de (.int a) (.int b) h) Q:=⟨_,rfl,q⟩
theorem x8 (q:Q (.bl (!(a==b)),h)):Rn (fJ (.int a) (.int b) h) Q:=⟨_,rfl,q⟩
theorem yd (q:Q (.bl (x==y),h)):Rn (de (.str x) (.str y) h) Q:=⟨_,rfl,q⟩
theorem x6 (q:Q (.bl (!(x==y)),h)):Rn (fJ (.str x) (.str y) h) Q:=⟨_,rfl,q⟩
theorem yc (q:Q (d,h)):Rn (fIx (.tup (d::r)) (.int 0) h) Q:=⟨_,by
 show ((atI (d::r) 0).map fun z=>(z,h))=_
 have:atI (d::r) 0=some d:=by unfold atI;rw [show ixN (d::r).length 0=some 0 by unfold ixN;simp;try omega];rfl
 rw [this];rfl,q⟩
theorem yb (q:Q (e,h)):Rn (fIx (.tup (d::e::r)) (.int 1) h) Q:=⟨_,by
 show ((atI (d::e::r) 1).map fun z=>(z,h))=_
 have:atI (d::e::r) 1=some e:=by unfold atI;rw [show ixN (d::e::r).length 1=some 1 by unfold ixN;simp;try omega];rfl
 rw [this];rfl,q⟩
theorem x9 (q:Q (f,h)):Rn (fIx (.tup (d::e::f::r)) (.int 2) h) Q:=⟨_,by
 show ((atI (d::e::f::r) 2).map fun z=>(z,h))=_
 have:atI (d::e::f::r) 2=some f:=by unfold atI;rw [show ixN (d::e::f::r).length 2=some 2 by unfold ixN;simp;try omega];rfl
 rw [this];rfl,q⟩
theorem vB (q:Q (.int r.length,h)):Rn (dB [.tup r] h) Q:=⟨_,rfl,q⟩
theorem vC (q:Q (.int r.length,h)):Rn (dB [.lv r] h) Q:=⟨_,rfl,q⟩
end
inductive All2 {α β:Type} (R:α→β→Prop):List α→List β→Prop where
 | nil:All2 R [] []
 | cons {x y xs ys}:R x y→All2 R xs ys→All2 R (x::xs) (y::ys)
theorem All2.length {α β:Type} {R:α→β→Prop}:∀{xs:List α} {ys:List β},All2 R xs ys→ys.length=xs.length
 | _,_,.nil=>rfl
 | _,_,.cons _ t=>by rw [List.length_cons,List.length_cons,All2.length t]
theorem All2.right {α β:Type} {R:α→β→Prop}:∀{xs:List α} {ys:List β},All2 R xs ys→∀y∈ys,∃x∈xs,R x y
 | _,_,.nil,_,h=>by cases h
 | _,_,.cons r t,y,h=>by
  rcases List.mem_cons.mp h with rfl | h
  ·exact ⟨_,List.mem_cons_self,r⟩
  ·obtain ⟨x,hx,r⟩:=All2.right t y h
   exact ⟨x,List.mem_cons_of_mem _ hx,r⟩
theorem iT {ws:W} {g:GM} {e:EM} (R:D→D→Prop):∀{xs:List D} {δ:DS} {h:MH} (J:Nat→DS→MH→Prop),J 0 δ h→(∀i δ h,i≤xs.length→J i δ h→chk ws h=true)→
  (∀i x δ h,xs[i]?=some x→J i δ h→Rn (g x δ h) fun q=>Rn (e q.1 q.2) fun y=>R x y.1∧J (i+1) q.1 y.2)→Rn (cm ws g fk e xs δ h) fun p=>All2 R xs p.1∧∃δ',J xs.length δ' p.2
 | [],δ,h,J,hJ,hc,_=>by
  unfold cm
  rw [if_pos (hc 0 δ h (Nat.le_refl _) hJ)]
  exact ⟨_,rfl,.nil,δ,hJ⟩
 | x::xs,δ,h,J,hJ,hc,ht=>by
  unfold cm
  rw [if_pos (hc 0 δ h (Nat.zero_le _) hJ)]
  obtain ⟨⟨δ1,h1⟩,e1,⟨y,h2⟩,e2,r,J1⟩:=ht 0 x δ h rfl hJ
  dsimp only at e2 r J1
  obtain ⟨⟨ys,h3⟩,e3,a,δ',J2⟩:=iT R (xs:=xs) (fun i=>J (i+1)) J1 (fun i δ h hl=>hc (i+1) δ h (Nat.succ_le_succ hl)) fun i y δ h hy=>ht (i+1) y δ h (by simpa using hy)
  refine ⟨(y::ys,h3),?_,.cons r a,δ',J2⟩
  rw [e1]
  dsimp only [Option.bind_some]
  show ((some (true,h1)).bind _)=_
  dsimp only [Option.bind_some]
  rw [if_pos rfl,e2]
  dsimp only [Option.bind_some]
  rw [e3]
  rfl
theorem iS {ws:W} {g:GM} {c:TM} {e:EM} (R:D→D→Prop):∀{xs:List D} {δ:DS} {h:MH} (J:Nat→DS→MH→Prop),J 0 δ h→(∀i δ h,i≤xs.length→J i δ h→chk ws h=true)→
  (∀i x δ h,xs[i]?=some x→J i δ h→Rn (g x δ h) fun q=>Rn (c q.1 q.2) fun t=>(t.1=true→Rn (e q.1 t.2) fun y=>R x y.1∧J (i+1) q.1 y.2)∧(t.1=false→J (i+1) q.1 t.2))→Rn (cm ws g c e xs δ h) fun p=>p.1.length≤xs.length∧(∀y∈p.1,∃x∈xs,R x y)∧∃δ',J xs.length δ' p.2
 | [],δ,h,J,hJ,hc,_=>by
  unfold cm
  rw [if_pos (hc 0 δ h (Nat.le_refl _) hJ)]
  exact ⟨_,rfl,Nat.le_refl _,fun _ z=>(nomatch z),δ,hJ⟩
 | x::xs,δ,h,J,hJ,hc,ht=>by
  unfold cm
  rw [if_pos (hc 0 δ h (Nat.zero_le _) hJ)]
  obtain ⟨⟨δ1,h1⟩,e1,⟨t,h2⟩,e2,q1,q2⟩:=ht 0 x δ h rfl hJ
  dsimp only at e2 q1 q2
  rw [e1]
  dsimp only [Option.bind_some]
  rw [e2]
  dsimp only [Option.bind_some]
  have next:=fun {δ':DS} {h':MH} (J1:J 1 δ' h')=>iS R (xs:=xs) (fun i=>J (i+1)) J1 (fun i δ h hl=>hc (i+1) δ h (Nat.succ_le_succ hl)) fun i y δ h hy=>ht (i+1) y δ h (by simpa using hy)
  cases t with
  | true=>
   obtain ⟨⟨y,h3⟩,e3,r,J1⟩:=q1 rfl
   dsimp only at r J1
   obtain ⟨⟨ys,h4⟩,e4,l,a,δ',J2⟩:=next J1
   refine ⟨(y::ys,h4),?_,Nat.succ_le_succ l,fun z hz=>?_,δ',J2⟩
   ·rw [if_pos rfl,e3]
    dsimp only [Option.bind_some]
    rw [e4]
    rfl
   ·rcases List.mem_cons.mp hz with rfl | hz
    ·exact ⟨x,List.mem_cons_self,r⟩
    ·obtain ⟨u,hu,r⟩:=a z hz
     exact ⟨u,List.mem_cons_of_mem _ hu,r⟩
  | false=>
   obtain ⟨⟨ys,h4⟩,e4,l,a,δ',J2⟩:=next (q2 rfl)
   refine ⟨(ys,h4),?_,Nat.le_succ_of_le l,fun z hz=>?_,δ',J2⟩
   ·rw [if_neg (by decide),e4]
   ·obtain ⟨u,hu,r⟩:=a z hz
    exact ⟨u,List.mem_cons_of_mem _ hu,r⟩
end Sm
namespace L2
open PySem PySem.Spec PyProof.Rows
abbrev zX:Hp:=fun _=>none
structure Tab (P:Program) (w:World) (K:PySem.W.Frag) (mg:Str→Option Value) (nm:Str) (tb:List (Str×List Int)):Prop where
 ex:∃(a:Addr) (o:Obj) (es:Array DictEntry) (ep:Nat) (kvs:List (Str×Value)),mg nm=some (.ref a)∧K.lookup a=some o∧o.ExactDict∧o.data=.dict es ep∧(a==sysModules)=false∧KeysOf (strKind P w) es∧Pairs (strKind P w) es.toList kvs∧(kvs.map (·.1)).Nodup∧
  Sm.All2 (fun (x:Str×List Int) (y:Str×Value)=>x.1=y.1∧∃(t:Addr) (u:Obj) (its:Array Value) (n:Nat),y.2=.ref t∧K.lookup t=some u∧u.cls=.type "tuple"∧u.dict=none∧u.data=.seq its n∧its.size≤sizeLine∧IntsAre its.toList x.2) tb kvs
theorem qi {K:PySem.W.Frag}:∀{tb:List (Str×List Int)} {kvs:List (Str×Value)},Sm.All2 (fun (x:Str×List Int) (y:Str×Value)=>x.1=y.1∧∃(t:Addr) (u:Obj) (its:Array Value) (n:Nat),y.2=.ref t∧K.lookup t=some u∧u.cls=.type "tuple"∧u.dict=none∧u.data=.seq its n∧its.size≤sizeLine∧IntsAre its.toList x.2) tb kvs→∀x:Str,
  (∀is,tb.lookup x=some is→∃t,valueAt kvs x=some (.ref t)∧∀H,SqT K H t (is.map V.int))∧(valueAt kvs x).isSome=(tb.lookup x).isSome:=by
 intro tb kvs h
 induction h with
 | nil=>exact fun x=>⟨fun is e=>(nomatch e),rfl⟩
 | @cons p q tb kvs r l ih=>
  intro x
  obtain ⟨a,is0⟩:=p
  obtain ⟨b,v⟩:=q
  obtain ⟨e0,t,u,its,n,e1,h1,h2,h3,h4,h5,h6⟩:=r
  dsimp only at e0 e1 h6
  subst e0
  subst e1
  by_cases hx:x=a
  ·subst hx
   have hv:valueAt ((x,Value.ref t)::kvs) x=some (.ref t):=by unfold valueAt;simp
   have hl:((x,is0)::tb).lookup x=some is0:=by simp
   refine ⟨fun is e=>?_,by rw [hv,hl];rfl⟩
   rw [hl] at e
   cases e
   exact ⟨t,hv,fun H=>.inr ⟨u,its,n,h1,h2,h4,h5,fN h6,h3⟩⟩
  ·have hv:valueAt ((a,Value.ref t)::kvs) x=valueAt kvs x:=by
    unfold valueAt
    rw [List.find?_cons_of_neg (by simpa using fun z=>hx z.symm)]
   have hl:((a,is0)::tb).lookup x=tb.lookup x:=by
    rw [List.lookup_cons,show (x==a)=false by simpa using hx]
   rw [hv,hl]
   exact ih x
section
variable {X:Cx} {nm:Str} {tb:List (Str×List Int)} {i:Expr} {ti:TE} {p pos:Pos}
theorem Tab.dict {pins:List (Addr×Obj)} {σ:St} {H:Hp} {s:Shared} (T:Tab X.prog X.w X.K X.mg nm tb) (I:Inv X pins σ H s):∃(a:Addr) (kvs:List (Str×Value)),X.mg nm=some (.ref a)∧(a==sysModules)=false∧s.heap.DictOf (strKind X.prog X.w) a kvs∧∀x:Str,
  (∀is,tb.lookup x=some is→∃t,valueAt kvs x=some (.ref t)∧∀H,SqT X.K H t (is.map V.int))∧(valueAt kvs x).isSome=(tb.lookup x).isSome:=by
 obtain ⟨a,o,es,ep,kvs,h1,h2,h3,h4,h5,h6,h7,h8,h9⟩:=T.ex
 exact ⟨a,kvs,h1,h5,⟨o,es,ep,I.kIn a o h2,h3,h4,h6,h7,h8⟩,qi h9⟩
theorem wO (T:Tab X.prog X.w X.K X.mg nm tb) (hg:Gl X nm) (hi:PE X i ti) (hs:vp i) (hd:(nm==("__debug__":Str))=false):
  PE X (.Subscript (.Name nm p) i pos) (fun σ H Q=>ti σ H fun y H1=>∃x is,y=.str x∧tb.lookup x=some is∧∀t,SqT X.K zX t (is.map V.int)→Q (.ref t) H1):=by
 intro pins s σ H Q I h
 obtain ⟨a,kvs,hm,hsm,dd,hv⟩:=T.dict I
 refine ue PySem.F.slot_dict_getitem.lookup hs (pU I hg hm (thn (hi pins s σ H _ I h) fun iv s2 ⟨y,H2,I2,ry,x,is,ey,l,q⟩=>?_) hd)
 subst ey
 obtain ⟨t,rfl⟩:=ry
 obtain ⟨a',kvs',hm',hsm',dd',hv'⟩:=T.dict I2
 rw [hm] at hm'
 cases hm'
 obtain ⟨u,e,sq⟩:=(hv' x).1 is l
 exact ⟨dd'.typeIs,wpAny_getItem_of (by show Value.isStrOf x (.str x t)=true;unfold Value.isStrOf;simp) dd'.mapOf e ⟨.ref u,H2,I2.tok _,rfl,q u (sq _)⟩⟩
end
end L2
namespace Sm
open PySem L2 PySem.Spec PyProof.Rows
section
variable {X:Cx} {nm:Str} {tb:List (Str×List Int)} {i:Expr} {mi:EM} {p pos:Pos}
def xG (tb:List (Str×List Int)) (d:D) (h:MH):Option (D×MH):=match d with
 | .str x=>(tb.lookup x).map fun is=>(.tup (is.map D.int),h)
 | _=>none
theorem vR (T:Tab X.prog X.w X.K X.mg nm tb) (hi:SE X i mi) (hg:Gl X nm:=by unfold Gl;kernel_rfl) (hs:vp i:=by unfold vp;intro _ _;kernel_rfl) (hd:(nm==("__debug__":Str))=false:=by kernel_rfl):SE X (.Subscript (.Name nm p) i pos) (eUn (xG tb) mi):=
 (wO T hg hi hs hd).imp fun σ H Q ⟨ρ,δ,h,d,h',R,S,e,k⟩=>by
  obtain ⟨⟨x,h1⟩,e1,e2⟩:=bnd e
  dsimp only at e2
  refine ⟨ρ,δ,h,x,h1,R,S,e1,fun v H1 ⟨ρ1,T1,S1,r1⟩=>?_⟩
  unfold xG at e2
  split at e2
  ·rename_i y
   obtain ⟨is,e3,e4⟩:=mpd e2
   cases e4
   cases r1
   exact ⟨_,is,rfl,e3,fun t sq=>k _ _ ⟨ρ1,T1,S1,.tup (.inr sq) (repL_ints' is)⟩⟩
  ·cases e2
end
end Sm
namespace Hd
open PySem PySem.W PySem.Spec PyProof.Rows L2 Sm
def pX:List Value→Option (List Int)
 | []=>some []
 | .int i _::r=>(pX r).map fun is=>i::is
 | _=>none
def p5 (v:Value) (t:String):Bool:=match v with
 | .type s=>decide (s=t)
 | _=>false
def rowAt (h:Heap) (e:DictEntry):Option (Str×Int×List Int):=match e.key with
 | .str x _=>match e.val with
  | .ref t=>match h.get? t with
   | some u=>if p5 u.cls "tuple"&&u.dict.isNone then (match u.data with
     | .seq its _=>if its.size≤100 then (pX its.toList).map fun is=>(x,e.hash,is) else none
     | _=>none) else none
   | none=>none
  | _=>none
 | _=>none
def gj (h:Heap):List DictEntry→Option (List (Str×Int×List Int))
 | []=>some []
 | e::r=>(rowAt h e).bind fun x=>(gj h r).map fun xs=>x::xs
def tabAt (h:Heap) (nm:Str):Option (List (Str×Int×List Int)):=match h.nsMap mainGlobals nm with
 | some (.ref a)=>if a==sysModules then none else (match h.get? a with
  | some o=>if p5 o.cls "dict"&&o.dict.isNone&&decide (o.slots=#[]) then (match o.data with
    | .dict es _=>gj h es.toList
    | _=>none) else none
  | none=>none)
 | _=>none
abbrev Sub (h h':Heap):Prop:=∀b o,h.get? b=some o→h'.get? b=some o
theorem oI {h h':Heap} (k:Sub h h') {e:DictEntry} {r:Str×Int×List Int} (x:rowAt h e=some r):rowAt h' e=some r:=by
 unfold rowAt at x ⊢
 split at x
 ·split at x
  ·split at x
   ·rename_i u hu
    rw [k _ _ hu]
    exact x
   ·cases x
  ·cases x
 ·cases x
theorem iB {h h':Heap} (k:Sub h h'):∀{es:List DictEntry} {r:List (Str×Int×List Int)},gj h es=some r→gj h' es=some r
 | [],_,x=>x
 | e::es,r,x=>by
  unfold gj at x ⊢
  obtain ⟨y,e1,x⟩:=Option.bind_eq_some_iff.mp x
  obtain ⟨ys,e2,x⟩:=Option.map_eq_some_iff.mp x
  rw [oI k e1,iB k e2]
  exact congrArg some x
theorem oB {h h':Heap} (k:Sub h h') {nm:Str} {r:List (Str×Int×List Int)} (x:tabAt h nm=some r):tabAt h' nm=some r:=by
 have hg:∀v,h.nsMap mainGlobals nm=some v→h'.nsMap mainGlobals nm=some v:=fun v e=>by
  unfold Heap.nsMap at e ⊢
  split at e
  ·rename_i o ho
   rw [k _ _ ho]
   exact e
  ·cases e
 unfold tabAt at x ⊢
 split at x
 ·rename_i a ha
  rw [hg _ ha]
  dsimp only
  split at x
  ·cases x
  ·rename_i hs
   rw [if_neg hs]
   split at x
   ·rename_i o ho
    rw [k _ _ ho]
    dsimp only
    split at x
    ·rename_i hc
     rw [if_pos hc]
     split at x
     ·exact iB k x
     ·cases x
    ·cases x
   ·cases x
 ·cases x
theorem nY:∀{vs:List Value} {is:List Int},pX vs=some is→IntsAre vs is
 | [],_,e=>by cases e;exact .nil
 | v::r,is,e=>by
  cases v <;> first | (cases e;done) | skip
  obtain ⟨js,e1,e2⟩:=Option.map_eq_some_iff.mp (show (pX r).map _=some is from e)
  subst e2
  exact .cons _ _ (nY e1)
theorem oo {v:Value} {t:String} (h:p5 v t=true):v=.type t:=by
 unfold p5 at h
 split at h
 ·rw [of_decide_eq_true h]
 ·cases h
theorem jf {P:Program} {w:World} {h:Heap}:∀{es:List DictEntry} {tb:List (Str×List Int)},gj h es=some (tb.map fun x=>(x.1,hashStr w x.1,x.2))→
  ∃kvs:List (Str×Value),(∀e∈es,∃k,(PySem.strKind P w).is k e.key=true∧e.hash=(PySem.strKind P w).hash k)∧Pairs (PySem.strKind P w) es kvs∧kvs.map (·.1)=tb.map (·.1)∧
   All2 (fun (x:Str×List Int) (y:Str×Value)=>x.1=y.1∧∃(t:Addr) (u:Obj) (its:Array Value) (n:Nat),y.2=.ref t∧(cq h).lookup t=some u∧u.cls=.type "tuple"∧u.dict=none∧u.data=.seq its n∧its.size≤sizeLine∧IntsAre its.toList x.2) tb kvs
 | [],tb,x=>by
  have hz:tb=[]:=by
   have:=Option.some.inj x
   exact List.map_eq_nil_iff.mp this.symm
  subst hz
  exact ⟨[],fun _ z=>(nomatch z),.nil,rfl,.nil⟩
 | e::es,tb,x=>by
  unfold gj at x
  obtain ⟨y,e1,x⟩:=Option.bind_eq_some_iff.mp x
  obtain ⟨ys,e2,x⟩:=Option.map_eq_some_iff.mp x
  cases tb with
  | nil=>cases x
  | cons q tb=>
   rw [List.map_cons] at x
   obtain ⟨rfl,rfl⟩:=List.cons.inj x
   obtain ⟨kvs,h1,h2,h3,h4⟩:=jf (P:=P) e2
   unfold rowAt at e1
   split at e1
   ·rename_i x0 tk hk
    split at e1
    ·rename_i t hv
     split at e1
     ·rename_i u hu
      split at e1
      ·rename_i hc
       rw [Bool.and_eq_true] at hc
       split at e1
       ·rename_i its n hd
        split at e1
        ·rename_i hs
         obtain ⟨is,e3,e4⟩:=Option.map_eq_some_iff.mp e1
         have e5:x0=q.1:=congrArg (·.1) e4
         have e6:e.hash=hashStr w q.1:=congrArg (·.2.1) e4
         have e7:is=q.2:=congrArg (·.2.2) e4
         have hki:(PySem.strKind P w).is q.1 e.key=true:=by rw [hk,e5];show Value.isStrOf q.1 (.str q.1 tk)=true;unfold Value.isStrOf;simp
         refine ⟨(q.1,.ref t)::kvs,fun e' he'=>?_,.cons hki hv h2,by rw [List.map_cons,List.map_cons,h3],.cons ⟨rfl,t,u,its,n,rfl,fU hu rfl,oo hc.1,by simpa using hc.2,hd,Nat.le_trans hs (by decide),by rw [←e7];exact nY e3⟩ h4⟩
         rcases List.mem_cons.mp he' with rfl | he'
         ·exact ⟨q.1,hki,e6⟩
         ·exact h1 e' he'
        ·cases e1
       ·cases e1
      ·cases e1
     ·cases e1
    ·cases e1
   ·cases e1
theorem tab_of {P:Program} {w:World} {h:Heap} {mg:Str→Option Value} {nm:Str} {tb:List (Str×List Int)} (x:tabAt h nm=some (tb.map fun x=>(x.1,hashStr w x.1,x.2))) (g:h.Ns mainGlobals mg) (nd:(tb.map (·.1)).Nodup):Tab P w (cq h) mg nm tb:=by
 unfold tabAt at x
 split at x
 ·rename_i a ha
  split at x
  ·cases x
  ·rename_i hs
   split at x
   ·rename_i o ho
    split at x
    ·rename_i hc
     rw [Bool.and_eq_true,Bool.and_eq_true] at hc
     split at x
     ·rename_i es ep hd
      obtain ⟨kvs,h1,h2,h3,h4⟩:=jf (P:=P) x
      have hm:mg nm=some (.ref a):=by
       obtain ⟨o',es',ep',g1,g2,_,g3⟩:=g
       rw [←g3 nm,←ha]
       unfold Heap.nsMap
       rw [g1]
       dsimp only
       rw [g2]
      exact ⟨a,o,es,ep,kvs,hm,fU ho rfl,⟨oo hc.1.1,by simpa using hc.1.2,of_decide_eq_true hc.2⟩,hd,by simpa using hs,fun e he=>h1 e (Array.mem_toList_iff.mpr he),h2,by rw [h3];exact nd,h4⟩
     ·cases x
    ·cases x
   ·cases x
 ·cases x
end Hd
namespace Pg
open PySem Sm L2
abbrev Term:=Str×Int
abbrev Lock:=Str×Term
inductive Row where
 | say (w:Str)
 | call (d:Str) (ts:List Term)
 | within (l:Lock) (b:List Row)
 | all (ls:List Lock) (b:List Row)
 | ask (l:Lock) (b e:List Row)
 | by_ (s t:Term) (a b c:List Row)
 | either (a b:List Row)
 | again (a:List Row)
def bp (t:Term):D:=.tup [.str t.1,.int t.2]
def aM (l:Lock):D:=.tup [.str l.1,bp l.2]
mutual
def aL:Row→D
 | .say w=>.tup [.str "say",.str w]
 | .call d ts=>.tup [.str "call",.str d,.tup (ts.map bp)]
 | .within l b=>.tup [.str "within",aM l,.tup (bj b)]
 | .all ls b=>.tup [.str "all",.tup (ls.map aM),.tup (bj b)]
 | .ask l b e=>.tup [.str "ask",aM l,.tup (bj b),.tup (bj e)]
 | .by_ s t a b c=>.tup [.str "by",bp s,bp t,.tup (bj a),.tup (bj b),.tup (bj c)]
 | .either a b=>.tup [.str "either",.tup (bj a),.tup (bj b)]
 | .again a=>.tup [.str "again",.tup (bj a)]
def bj:List Row→List D
 | []=>[]
 | r::rs=>aL r::bj rs
end
theorem cJ:∀l:List Row,bj l=l.map aL
 | []=>by simp [bj]
 | r::rs=>by simp [bj,cJ rs]
mutual
def cnt:Row→Nat
 | .say _=>1
 | .call _ _=>1
 | .within _ b=>1+aX b
 | .all _ b=>1+aX b
 | .ask _ b e=>1+aX b+aX e
 | .by_ _ _ a b c=>1+aX a+aX b+aX c
 | .either a b=>1+aX a+aX b
 | .again a=>1+aX a
def aX:List Row→Nat
 | []=>0
 | r::rs=>cnt r+aX rs
end
theorem jJ:∀a b:List Row,aX (a++b)=aX a+aX b
 | [],b=>by simp [aX]
 | r::a,b=>by simp [aX,jJ a b];omega
theorem jI:∀a:List Row,a.length≤aX a
 | []=>by simp
 | r::a=>by
  have:=jI a
  have:1≤cnt r:=by cases r <;> simp [cnt] <;> omega
  simp [aX];omega
structure Wd where
 names:List Str
 deeds:List Str
 params:List (List Str)
def dU (ps:List Str) (t:Term):Prop:=(t.1=Str.ofString ""∨t.1∈ps)∧-99≤t.2∧t.2≤99
def di (W:Wd) (ps:List Str) (l:Lock):Prop:=l.1∈W.names∧dU ps l.2
mutual
def br (W:Wd) (ps:List Str):Nat→Row→Prop
 | _,.say w=>w∈W.names++W.deeds
 | _,.call d ts=>(∃(j:Nat) (qs:List Str),W.deeds[j]?=some d∧W.params[j]?=some qs∧ts.length=qs.length)∧∀t∈ts,dU ps t
 | n,.within l b=>di W ps l∧n < 5∧b.length≤12∧bx W ps (n+1) b
 | n,.all ls b=>(2≤ls.length∧ls.length≤4∧ls.Nodup∧∀l∈ls,di W ps l)∧n < 5∧b.length≤12∧bx W ps (n+1) b
 | n,.ask l b e=>di W ps l∧n < 5∧b.length≤12∧e.length≤12∧bx W ps (n+1) b∧bx W ps (n+1) e
 | n,.by_ s t a b c=>dU ps s∧dU ps t∧n < 5∧a.length≤12∧b.length≤12∧c.length≤12∧bx W ps (n+1) a∧bx W ps (n+1) b∧bx W ps (n+1) c
 | n,.either a b=>n < 5∧a.length≤12∧b.length≤12∧bx W ps (n+1) a∧bx W ps (n+1) b
 | n,.again a=>n < 5∧a.length≤12∧bx W ps (n+1) a
def bx (W:Wd) (ps:List Str):Nat→List Row→Prop
 | _,[]=>True
 | n,r::rs=>br W ps n r∧bx W ps n rs
end
theorem kL {W:Wd} {ps:List Str} {n:Nat}:∀{a b:List Row},bx W ps n a→bx W ps n b→bx W ps n (a++b)
 | [],b,_,h=>h
 | r::a,b,h,h'=>by
  unfold bx at h
  show bx W ps n (r::(a++b))
  unfold bx
  exact ⟨h.1,kL h.2 h'⟩
end Pg
namespace Mi
open PySem L2 Sm PySem.Spec PyProof.Rows
def top (i:Nat):Stmt:=PySem.Challenge.pw_neverstuck_k04_rows_numbered.main.body.getD i (.Pass ⟨0,0,0,0⟩)
def fO:List (Str×List Int):=[("say",[2,0]),("call",[3,0]),("within",[2,1]),("all",[2,1]),("ask",[2,2]),("by",[3,3]),("either",[1,2]),("again",[1,1])]
structure Bs (P:Program) (w:World) (K:PySem.W.Frag) (mg:Str→Option Value):Prop where
 abs_:mg "abs"=none
 all_:mg "all"=none
 bool_:mg "bool"=none
 enumerate_:mg "enumerate"=none
 int_:mg "int"=none
 isinstance_:mg "isinstance"=none
 len_:mg "len"=none
 list_:mg "list"=none
 max_:mg "max"=none
 min_:mg "min"=none
 range_:mg "range"=none
 sorted_:mg "sorted"=none
 str_:mg "str"=none
 tuple_:mg "tuple"=none
 zip_:mg "zip"=none
 T_SHAPES:Tab P w K mg "SHAPES" fO
abbrev eT:Stmt:=top 7
theorem jV:FnScope ["_law_script"] ["_law_script"] (aB eT):=⟨rfl,rfl,rfl,by decide+kernel,rfl,by decide+kernel,by decide+kernel⟩
def cF:Fn:=mkF 1
  (bL (eOb (ae (eK (.int 0)) (ae (eOb (lH (ae (mN (af 0) pNo (pAt (eK (.int 63)))) aj))) (ae (eK (.int 0)) aj)))))
abbrev fC:Stmt:=top 8
theorem cc:FnScope ["_law_state","_law_cells","_law_tour","_law_cell","_law_mixed"] ["_law_state"] (aB fC):=⟨rfl,rfl,rfl,by decide+kernel,rfl,by decide+kernel,by decide+kernel⟩
def dD:Fn:=mkF 5
  (ax (bc 1 (eOp fIx (af 0) (eK (.int 1))))
  (ax (bc 2 (eOp fIx (af 0) (eK (.int 2))))
  (ax (je (eOp aV (af 2) (eK (.int 1))) (ke (af 0) (eK (.int 2))))
  (ax (bc 3 (eK (.int 0)))
  (ax (sIf (aY (eOp fJ (af 1) (eLv aj))) (bc 3 (eOp fIx (af 1) (eOp jC (af 2) (eFn dB (ae (af 1) aj))))) cV)
  (sIf (iJ (aY (eOp fLt (af 2) (eFn dB (ae (af 1) aj)))) (aY (eOp fGe (eFn xJ (ae (af 3) aj)) (eOp u7 (eK (.int 10)) (eK (.int 18)))))) (je (eFn xJ (ae (af 3) aj)) (ke (af 0) (eK (.int 0)))) (ax (bc 4 (eOp jC (eOp fK (eOp aV (eOp aV (eOp jC (af 3) (eK (.int 2305843009213693951))) (eOp fK (eOp fK (eK (.int 7919)) (af 2)) (af 2))) (eK (.int 11))) (eK (.int 48271))) (eK (.int 2305843009213693951))))
  (ax (bc 4 (eOp jC (eOp fK (af 4) (af 4)) (eK (.int 2305843009213693921))))
  (je (eOp aV (eOp jC (eOp aV (eOp aV (eOp fK (af 4) (eK (.int 69621))) (af 2)) (eK (.int 104729))) (eK (.int 2305843009213693951))) (eOp u7 (eK (.int 10)) (eK (.int 9)))) (ke (af 0) (eK (.int 0))))))))))))
abbrev fz:Stmt:=top 9
theorem gD:FnScope ["_law_state","_law_many","_law_found"] ["_law_state","_law_many"] (aB fz):=⟨rfl,rfl,rfl,by decide+kernel,rfl,by decide+kernel,by decide+kernel⟩
def av:Fn:=mkF 3
  (ax (sIf (aY (eOp fLt (eOp fIx (af 0) (eK (.int 0))) (af 1))) (d9 (eFn dD (ae (af 0) aj))) cV)
  (ax (bc 2 (eOp jC (eOp fIx (af 0) (eK (.int 0))) (af 1)))
  (ax (je (eOp sY (eOp fIx (af 0) (eK (.int 0))) (af 1)) (ke (af 0) (eK (.int 0))))
  (bL (af 2)))))
abbrev g9:Stmt:=top 10
theorem oH:FnScope ["_law_state","_law_some"] ["_law_state","_law_some"] (aB g9):=⟨rfl,rfl,rfl,by decide+kernel,rfl,by decide+kernel,by decide+kernel⟩
def aA:Fn:=mkF 2
  (bL (eOp fIx (af 1) (eFn av (ae (af 0) (ae (eFn dB (ae (af 1) aj)) aj)))))
abbrev eS:Stmt:=top 11
theorem bu:FnScope ["_law_state","_law_many","_law_letters","_law_stem","_law_k","_law_at","_law_first","_law_stride"] ["_law_state","_law_many"] (aB eS):=⟨rfl,rfl,rfl,by decide+kernel,rfl,by decide+kernel,by decide+kernel⟩
def ck:Fn:=mkF 8
  (ax (bc 2 (eK (.str "abcdefghijklmnopqrstuvwxyz")))
  (ax (bc 3 (eK (.str "")))
  (ax (gi (kd (ae (eFn aA (ae (af 0) (ae (eK (.lv [.int 0,.int 1,.int 1,.int 2,.int 3,.int 6])) aj))) aj)) (gN 4) (bc 3 (eOp aV (af 3) (eOp fIx (af 2) (eFn av (ae (af 0) (ae (eK (.int 26)) aj)))))))
  (ax (bc 5 (eFn av (ae (af 0) (ae (eOp aV (eFn dB (ae (af 3) aj)) (eK (.int 1))) aj))))
  (ax (bc 6 (eFn av (ae (af 0) (ae (eK (.int 26)) aj))))
  (ax (bc 7 (eFn aA (ae (af 0) (ae (eK (.lv [.int 1,.int 3,.int 5,.int 7,.int 9,.int 11])) aj))))
  (bL (eLv (dC [none,some 5,some 6,some 2,some 3,some 7] (kd (ae (af 1) aj)) (gN 0) fk (eOp aV (eOp aV (mN (af 4) pNo (pAt (af 1))) (eOp fIx (af 3) (eOp jC (eOp aV (af 2) (eOp fK (af 5) (af 0))) (eK (.int 26))))) (mN (af 4) (pAt (af 1)) pNo)))))))))))
abbrev eR:Stmt:=top 12
theorem bQ:FnScope ["_law_state","_law_most","_law_odd","_law_names","_law_deeds","_law_params","_law_many","_law_floors"] ["_law_state","_law_most","_law_odd"] (aB eR):=⟨rfl,rfl,rfl,by decide+kernel,rfl,by decide+kernel,by decide+kernel⟩
def dc:Fn:=mkF 8
  (ax (bc 3 (eFn ck (ae (af 0) (ae (eFn aA (ae (af 0) (ae (eK (.lv [.int 1,.int 2,.int 2,.int 3,.int 4,.int 6])) aj))) aj))))
  (ax (bc 4 (eFn ck (ae (af 0) (ae (eFn aA (ae (af 0) (ae (eK (.lv [.int 1,.int 1,.int 2,.int 2,.int 3,.int 4,.int 6])) aj))) aj))))
  (ax (bc 5 (eFn ck (ae (af 0) (ae (eK (.int 3)) aj))))
  (ax (bc 6 (eLv (dC [none,some 0] (ij (af 4)) (gN 0) fk (eFn aA (ae (af 1) (ae (eK (.lv [.int 0,.int 1,.int 1,.int 2,.int 2,.int 3])) aj))))))
  (ax (bc 7 (eFn sV (ae (eLv (dC [none,some 3,some 0] (ij (af 4)) (gN 0) fk (eFn av (ae (af 2) (ae (eFn dB (ae (af 1) aj)) aj))))) aj)))
  (ax (bc 5 (eLv (dC [none,some 5] (ij (af 6)) (gN 0) fk (mN (af 1) pNo (pAt (af 0))))))
  (bL (pf (bM (eK (.str "names")) (af 3) (bM (eK (.str "deeds")) (af 4) (bM (eK (.str "params")) (af 5) (bM (eK (.str "floors")) (af 7) (bM (eK (.str "left")) (af 1) (bM (eK (.str "odd")) (af 2) sC))))))))))))))
abbrev eu:Stmt:=top 13
theorem jd:FnScope ["_law_state","_law_world_here"] ["_law_state","_law_world_here"] (aB eu):=⟨rfl,rfl,rfl,by decide+kernel,rfl,by decide+kernel,by decide+kernel⟩
def bB:Fn:=mkF 2
  (bL (ph (eOp fGt (eOp fIx (af 1) (eK (.str "odd"))) (eK (.int 0))) (eOp de (eFn av (ae (af 0) (ae (eOp fIx (af 1) (eK (.str "odd"))) aj))) (eK (.int 0)))))
abbrev fx:Stmt:=top 14
theorem gC:FnScope ["_law_state","_law_params","_law_far"] ["_law_state","_law_params"] (aB fx):=⟨rfl,rfl,rfl,by decide+kernel,rfl,by decide+kernel,by decide+kernel⟩
def ba:Fn:=mkF 3
  (ax (bc 2 (eOp o7 (eFn av (ae (af 0) (ae (eK (.int 81)) aj))) (eK (.int 40))))
  (ax (sIf (iJ (aY (eOp fGt (eFn dB (ae (af 1) aj)) (eK (.int 0)))) (aY (eOp fGt (eFn av (ae (af 0) (ae (eK (.int 5)) aj))) (eK (.int 0))))) (bL (eFn bg (ae (eFn aA (ae (af 0) (ae (af 1) aj))) (ae (eFn aA (ae (af 0) (ae (eLv (ae (eK (.int 0)) (ae (eK (.int 0)) (ae (eK (.int 0)) (ae (eK (.int 0)) (ae (eK (.int 1)) (ae (eK (.int 1)) (ae (eUn iI (eK (.int 1))) (ae (eK (.int 2)) (ae (af 2) aj)))))))))) aj))) aj)))) cV)
  (bL (eFn bg (ae (eK (.str "")) (ae (eFn aA (ae (af 0) (ae (eLv (ae (eK (.int 0)) (ae (eK (.int 0)) (ae (eK (.int 1)) (ae (eK (.int 1)) (ae (eK (.int 2)) (ae (eK (.int 3)) (ae (eUn iI (eK (.int 1))) (ae (af 2) aj))))))))) aj))) aj))))))
abbrev fD:Stmt:=top 16
theorem c5:FnScope ["_law_state","_law_world_here","_law_deed","_law_top","_law_some","_law_other","_law_terms"] ["_law_state","_law_world_here","_law_deed","_law_top"] (aB fD):=⟨rfl,rfl,rfl,by decide+kernel,rfl,by decide+kernel,by decide+kernel⟩
def dE:Fn:=mkF 7
  (ax (bc 4 (eLv (dC [none,some 2,some 3,some 1] (kd (ae (eFn dB (ae (eOp fIx (af 1) (eK (.str "deeds"))) aj)) aj)) (gN 0) (iJ (aY (eOp fGt (eOp fIx (eOp fIx (af 3) (eK (.str "floors"))) (af 0)) (af 2))) (aY (eOp fGe (af 0) (af 1)))) (af 0))))
  (ax (sIf (jT (eFn bB (ae (af 0) (ae (af 1) aj)))) (bc 4 (eLv (xS (ae (eFn dB (ae (eOp fIx (af 1) (eK (.str "deeds"))) aj)) aj)))) cV)
  (ax (sIf (aY (eOp de (af 4) (eLv aj))) (bL (eFn bg (ae (eK (.str "say")) (ae (eOp fIx (eOp fIx (af 1) (eK (.str "deeds"))) (af 2)) aj)))) cV)
  (ax (bc 5 (eFn aA (ae (af 0) (ae (af 4) aj))))
  (ax (bc 6 (eLv (dC [none,some 2,some 0,some 1] (ij (eOp fIx (eOp fIx (af 1) (eK (.str "params"))) (af 5))) (gN 0) fk (eFn ba (ae (af 2) (ae (eOp fIx (eOp fIx (af 3) (eK (.str "params"))) (af 1)) aj))))))
  (bL (eFn bg (ae (eK (.str "call")) (ae (eOp fIx (eOp fIx (af 1) (eK (.str "deeds"))) (af 5)) (ae (eFn cO (ae (af 6) aj)) aj))))))))))
abbrev fB:Stmt:=top 15
theorem bK:FnScope ["_law_state","_law_world_here","_law_deed","_law_top","_law_held","_law_low","_law_at","_law_name","_law_same_here","_law_word","_law_more"] ["_law_state","_law_world_here","_law_deed","_law_top","_law_held"] (aB fB):=⟨rfl,rfl,rfl,by decide+kernel,rfl,by decide+kernel,by decide+kernel⟩
def cU:Fn:=mkF 11
  (ax (bc 5 (eFn mL (ae (af 3) (ae (eOp fIx (eOp fIx (af 1) (eK (.str "floors"))) (af 2)) aj))))
  (ax (sIf (aY (eOp de (af 5) (eFn dB (ae (eOp fIx (af 1) (eK (.str "names"))) aj)))) (bL (eFn bg (ae (eK .non) (ae (eK .non) aj)))) cV)
  (ax (bc 6 (eOp aV (af 5) (eFn av (ae (af 0) (ae (eOp o7 (eFn dB (ae (eOp fIx (af 1) (eK (.str "names"))) aj)) (af 5)) aj)))))
  (ax (sIf (jT (eFn bB (ae (af 0) (ae (af 1) aj)))) (bc 6 (eFn av (ae (af 0) (ae (eFn dB (ae (eOp fIx (af 1) (eK (.str "names"))) aj)) aj)))) cV)
  (ax (bc 7 (eOp fIx (eOp fIx (af 1) (eK (.str "names"))) (af 6)))
  (ax (bc 8 (eLv (dC [none,some 7] (ij (af 4)) (gN 0) (aY (eOp de (eOp fIx (af 0) (eK (.int 0))) (af 1))) (eOp fIx (af 0) (eK (.int 1))))))
  (ax (sIf (iJ (aY (eOp fJ (af 8) (eLv aj))) (oC (jT (eFn bB (ae (af 0) (ae (af 1) aj)))))) (ax (je (eOp fIx (af 8) (eUn iI (eK (.int 1)))) (gT 2 (aU (gN 9) (aU (gN 10) dN))))
  (bL (eFn bg (ae (af 6) (ae (eFn bg (ae (af 7) (ae (eFn bg (ae (af 9) (ae (eFn sW (ae (eK (.int 99)) (ae (eOp aV (eOp aV (af 10) (eK (.int 1))) (eFn av (ae (af 0) (ae (eK (.int 2)) aj)))) aj))) aj))) aj))) aj))))) cV)
  (bL (eFn bg (ae (af 6) (ae (eFn bg (ae (af 7) (ae (eFn ba (ae (af 0) (ae (eOp fIx (eOp fIx (af 1) (eK (.str "params"))) (af 2)) aj))) aj))) aj)))))))))))
abbrev gh:Stmt:=top 20
theorem fv:FnScope ["_law_state","_law_world_here","_law_deed","_law_deep","_law_top","_law_held","_law_most","_law_rows","_law_k"] ["_law_state","_law_world_here","_law_deed","_law_deep","_law_top","_law_held","_law_most"] (aB gh):=⟨rfl,rfl,rfl,by decide+kernel,rfl,by decide+kernel,by decide+kernel⟩
abbrev gg:Stmt:=top 19
theorem cy:FnScope ["_law_state","_law_world_here","_law_deed","_law_deep","_law_top","_law_held","_law_way","_law_one","_law_other","_law_lots_here","_law_sort"] ["_law_state","_law_world_here","_law_deed","_law_deep","_law_top","_law_held"] (aB gg):=⟨rfl,rfl,rfl,by decide+kernel,rfl,by decide+kernel,by decide+kernel⟩
abbrev et:Stmt:=top 18
theorem aN:FnScope ["_law_state","_law_world_here","_law_deed","_law_deep","_law_top","_law_held","_law_way","_law_at","_law_lock_here","_law_some","_law_high","_law_turn","_law_low","_law_other","_law_lot_here"] ["_law_state","_law_world_here","_law_deed","_law_deep","_law_top","_law_held","_law_way"] (aB et):=⟨rfl,rfl,rfl,by decide+kernel,rfl,by decide+kernel,by decide+kernel⟩
abbrev dH:Stmt:=top 17
theorem aR:FnScope ["_law_state","_law_world_here","_law_deed","_law_deep","_law_top","_law_held","_law_low","_law_name","_law_one","_law_other","_law_lots_here","_law_first","_law_second","_law_inner"] ["_law_state","_law_world_here","_law_deed","_law_deep","_law_top","_law_held"] (aB dH):=⟨rfl,rfl,rfl,by decide+kernel,rfl,by decide+kernel,by decide+kernel⟩
mutual
def aZ:Nat→Fn
 | 0=>fun _ _=>none
 | n+1=>mkL 9
  (ax (bc 7 (eOb aj))
  (ax (gi (kd (ae (eFn av (ae (af 0) (ae (eOp aV (eFn aA (ae (af 0) (ae (eOp aV (eOp u6 (eLv (ae (af 6) aj)) (eK (.int 15))) (eLv (ae (eK (.int 12)) aj))) aj))) (eK (.int 1))) aj))) aj)) (gN 8) (sIf (aY (eOp fGt (eOp fIx (af 1) (eK (.str "left"))) (eK (.int 0)))) (ax (je (eOp o7 (eOp fIx (af 1) (eK (.str "left"))) (eK (.int 1))) (ke (af 1) (eK (.str "left"))))
  (d9 (eM cb c6 (af 7) (ae (eFn (dr n) (ae (af 0) (ae (af 1) (ae (af 2) (ae (af 3) (ae (af 4) (ae (af 5) aj))))))) aj)))) cV))
  (bL (eFn cO (ae (af 7) aj)))))
def dr:Nat→Fn
 | 0=>fun _ _=>none
 | n+1=>mkF 11
  (ax (bc 6 (eFn av (ae (af 0) (ae (eK (.int 16)) aj))))
  (ax (sIf (tOr (aY (eOp fLt (af 6) (eK (.int 2)))) (iJ (aY (eOp de (af 3) (eK (.int 5)))) (aY (eOp fLt (af 6) (eK (.int 11)))))) (bL (eFn bg (ae (eK (.str "say")) (ae (eFn aA (ae (af 0) (ae (eOp aV (eOp fIx (af 1) (eK (.str "names"))) (eOp fIx (af 1) (eK (.str "deeds")))) aj))) aj)))) cV)
  (ax (sIf (tOr (aY (eOp fGt (af 6) (eK (.int 12)))) (aY (eOp de (af 3) (eK (.int 5))))) (bL (eFn dE (ae (af 0) (ae (af 1) (ae (af 2) (ae (af 4) aj)))))) cV)
  (ax (sIf (iJ (aY (eOp de (af 6) (eK (.int 12)))) (iJ (aY (eOp fLt (af 3) (eK (.int 3)))) (aY (eOp fGt (eOp fIx (af 1) (eK (.str "left"))) (eK (.int 5)))))) (bL (eFn (bJ n) (ae (af 0) (ae (af 1) (ae (af 2) (ae (af 3) (ae (af 4) (ae (af 5) aj)))))))) cV)
  (ax (sIf (tOr (aY (eOp de (af 6) (eK (.int 11)))) (aY (eOp de (af 6) (eK (.int 12))))) (ax (rQ 7 8 (ae (eFn ba (ae (af 0) (ae (eOp fIx (eOp fIx (af 1) (eK (.str "params"))) (af 2)) aj))) (ae (eFn ba (ae (af 0) (ae (eOp fIx (eOp fIx (af 1) (eK (.str "params"))) (af 2)) aj))) aj)))
  (ax (bc 9 (eLv (dC [none,some 2,some 3,some 5,some 0,some 4,some 1] (kd (ae (eK (.int 3)) aj)) (gN 0) fk (eFn (aZ n) (ae (af 4) (ae (af 6) (ae (af 1) (ae (eOp aV (af 2) (eK (.int 1))) (ae (af 5) (ae (af 3) (ae (eK (.int 2)) aj)))))))))))
  (bL (eOp aV (eFn bg (ae (eK (.str "by")) (ae (af 7) (ae (af 8) aj)))) (eFn cO (ae (af 9) aj)))))) cV)
  (ax (sIf (aY (eOp de (af 6) (eK (.int 10)))) (ax (bc 9 (eLv (dC [none,some 2,some 3,some 5,some 0,some 4,some 1] (kd (ae (eK (.int 2)) aj)) (gN 0) fk (eFn (aZ n) (ae (af 4) (ae (af 6) (ae (af 1) (ae (eOp aV (af 2) (eK (.int 1))) (ae (af 5) (ae (af 3) (ae (eK (.int 2)) aj)))))))))))
  (bL (eOp aV (eFn bg (ae (eK (.str "either")) aj)) (eFn cO (ae (af 9) aj))))) cV)
  (ax (sIf (aY (eOp de (af 6) (eK (.int 9)))) (bL (eFn bg (ae (eK (.str "again")) (ae (eFn (aZ n) (ae (af 0) (ae (af 1) (ae (af 2) (ae (eOp aV (af 3) (eK (.int 1))) (ae (af 4) (ae (af 5) (ae (eK (.int 2)) aj)))))))) aj)))) cV)
  (ax (bc 10 (eFn aA (ae (af 0) (ae (eK (.lv [.str "within",.str "within",.str "within",.str "within",.str "ask",.str "all"])) aj))))
  (bL (eFn (cp n) (ae (af 0) (ae (af 1) (ae (af 2) (ae (af 3) (ae (af 4) (ae (af 5) (ae (af 10) aj)))))))))))))))))
def cp:Nat→Fn
 | 0=>fun _ _=>none
 | n+1=>mkL 15
  (ax (je (eFn cU (ae (af 0) (ae (af 1) (ae (af 2) (ae (af 4) (ae (af 5) aj)))))) (gT 2 (aU (gN 7) (aU (gN 8) dN))))
  (ax (sIf (aY (eOp vb (af 7) (eK .non))) (bL (eFn bg (ae (eK (.str "say")) (ae (eOp fIx (eOp fIx (af 1) (eK (.str "deeds"))) (af 2)) aj)))) cV)
  (ax (sIf (aY (eOp de (af 6) (eK (.str "all")))) (ax (rQ 9 10 (ae (eOb (ae (af 8) aj)) (ae (af 7) aj)))
  (ax (gi (kd (ae (eFn aA (ae (af 0) (ae (eK (.lv [.int 1,.int 1,.int 2,.int 3])) aj))) aj)) (gN 11) (ax (je (eFn cU (ae (af 0) (ae (af 1) (ae (af 2) (ae (af 4) (ae (af 5) aj)))))) (gT 2 (aU (gN 12) (aU (gN 13) dN))))
  (ax (bc 10 (eFn mL (ae (af 10) (ae (af 12) aj))))
  (bc 9 (eOb (xT (af 9) (eOp u6 (eLv (ae (af 13) aj)) (eFn oa (ae (eOp mK (af 13) (af 9)) aj)))))))))
  (ax (sIf (aY (eOp de (eFn dB (ae (af 9) aj)) (eK (.int 1)))) (d9 (eM cb c6 (af 9) (ae (eFn bg (ae (eOp fIx (af 8) (eK (.int 0))) (ae (eFn bg (ae (eOp fIx (eOp fIx (af 8) (eK (.int 1))) (eK (.int 0))) (ae (eOp o7 (eOp aV (eOp fIx (eOp fIx (af 8) (eK (.int 1))) (eK (.int 1))) (eK (.int 1))) (eOp fK (eK (.int 2)) (eFn oa (ae (eOp fGt (eOp fIx (eOp fIx (af 8) (eK (.int 1))) (eK (.int 1))) (eK (.int 90))) aj)))) aj))) aj))) aj))) cV)
  (ax (bc 10 (eOp aV (af 10) (eFn oa (ae (eOp de (eOp fIx (af 1) (eK (.str "odd"))) (eK (.int 0))) aj))))
  (bL (eFn bg (ae (eK (.str "all")) (ae (eFn cO (ae (af 9) aj)) (ae (eFn (aZ n) (ae (af 0) (ae (af 1) (ae (af 2) (ae (eOp aV (af 3) (eK (.int 1))) (ae (eFn mL (ae (af 4) (ae (af 10) aj))) (ae (eOp aV (af 5) (af 9)) (ae (eK (.int 3)) aj)))))))) aj))))))))) cV)
  (ax (bc 14 (eFn (aZ n) (ae (af 0) (ae (af 1) (ae (af 2) (ae (eOp aV (af 3) (eK (.int 1))) (ae (eFn mL (ae (af 4) (ae (af 7) aj))) (ae (eOp aV (af 5) (eLv (ae (af 8) aj))) (ae (eK (.int 3)) aj)))))))))
  (ax (sIf (aY (eOp de (af 6) (eK (.str "ask")))) (bL (eFn bg (ae (eK (.str "ask")) (ae (af 8) (ae (af 14) (ae (eFn (aZ n) (ae (af 0) (ae (af 1) (ae (af 2) (ae (eOp aV (af 3) (eK (.int 1))) (ae (af 4) (ae (af 5) (ae (eK (.int 2)) aj)))))))) aj)))))) cV)
  (bL (eFn bg (ae (eK (.str "within")) (ae (af 8) (ae (af 14) aj))))))))))
def bJ:Nat→Fn
 | 0=>fun _ _=>none
 | n+1=>mkL 14
  (ax (bc 6 (eFn mL (ae (af 4) (ae (eOp fIx (eOp fIx (af 1) (eK (.str "floors"))) (af 2)) aj))))
  (ax (sIf (aY (eOp de (af 6) (eFn dB (ae (eOp fIx (af 1) (eK (.str "names"))) aj)))) (bL (eFn bg (ae (eK (.str "say")) (ae (eOp fIx (eOp fIx (af 1) (eK (.str "deeds"))) (af 2)) aj)))) cV)
  (ax (sIf (aY (eOp fJ (eLv (dC [none,some 6,some 1] (ij (af 5)) (gN 0) (aY (eOp de (eOp fIx (af 0) (eK (.int 0))) (eOp fIx (eOp fIx (af 2) (eK (.str "names"))) (af 1)))) (af 0))) (eLv aj))) (bL (eFn bg (ae (eK (.str "say")) (ae (eOp fIx (eOp fIx (af 1) (eK (.str "deeds"))) (af 2)) aj)))) cV)
  (ax (bc 7 (eOp fIx (eOp fIx (af 1) (eK (.str "names"))) (af 6)))
  (ax (je (eOp o7 (eOp fIx (af 1) (eK (.str "left"))) (eK (.int 5))) (ke (af 1) (eK (.str "left"))))
  (ax (rQ 8 9 (ae (eFn ba (ae (af 0) (ae (eOp fIx (eOp fIx (af 1) (eK (.str "params"))) (af 2)) aj))) (ae (eFn ba (ae (af 0) (ae (eOp fIx (eOp fIx (af 1) (eK (.str "params"))) (af 2)) aj))) aj)))
  (ax (bc 10 (eOb aj))
  (ax (gi (ij (eLv (ae (eFn bg (ae (af 8) (ae (af 9) aj))) (ae (eFn bg (ae (af 9) (ae (af 8) aj))) aj)))) (gT 2 (aU (gN 11) (aU (gN 12) dN))) (ax (bc 13 (eFn (aZ n) (ae (af 0) (ae (af 1) (ae (af 2) (ae (eOp aV (af 3) (eK (.int 3))) (ae (af 6) (ae (eOp aV (af 5) (eLv (ae (eFn bg (ae (af 7) (ae (af 11) aj))) (ae (eFn bg (ae (af 7) (ae (af 12) aj))) aj)))) (ae (eK (.int 2)) aj)))))))))
  (d9 (eM cb c6 (af 10) (ae (eFn bg (ae (eFn bg (ae (eK (.str "within")) (ae (eFn bg (ae (af 7) (ae (af 11) aj))) (ae (eFn bg (ae (eFn bg (ae (eK (.str "within")) (ae (eFn bg (ae (af 7) (ae (af 12) aj))) (ae (af 13) aj)))) aj)) aj)))) aj)) aj)))))
  (bL (eFn bg (ae (eK (.str "by")) (ae (af 8) (ae (af 9) (ae (eOp fIx (af 10) (eK (.int 0))) (ae (eFn bg (ae (eFn bg (ae (eK (.str "within")) (ae (eFn bg (ae (af 7) (ae (af 8) aj))) (ae (eFn bg aj) aj)))) aj)) (ae (eOp fIx (af 10) (eK (.int 1))) aj))))))))))))))))
end
abbrev dS:Stmt:=top 21
theorem bH:FnScope ["_law_state","_law_most","_law_odd","_law_world_here","_law_deeds","_law_k","_law_deed","_law_rows"] ["_law_state","_law_most","_law_odd"] (aB dS):=⟨rfl,rfl,rfl,by decide+kernel,rfl,by decide+kernel,by decide+kernel⟩
def cB:Fn:=mkL 8
  (ax (bc 3 (eFn dc (ae (af 0) (ae (af 1) (ae (af 2) aj)))))
  (ax (bc 4 (eOb aj))
  (ax (gi (jz (ae (eOp fIx (af 3) (eK (.str "deeds"))) aj)) (gT 2 (aU (gN 5) (aU (gN 6) dN))) (ax (bc 7 (eFn (aZ 20) (ae (af 0) (ae (af 3) (ae (af 5) (ae (eK (.int 1)) (ae (eUn iI (eK (.int 1))) (ae (eLv aj) (ae (eFn aA (ae (af 0) (ae (eK (.lv [.int 1,.int 2,.int 3,.int 4,.int 12])) aj))) aj)))))))))
  (d9 (eM cb c6 (af 4) (ae (eFn bg (ae (af 6) (ae (eFn cO (ae (eOp fIx (eOp fIx (af 3) (eK (.str "params"))) (af 5)) aj)) (ae (af 7) aj)))) aj)))))
  (bL (eFn bg (ae (eFn cO (ae (eFn sU (ae (eOp fIx (af 3) (eK (.str "names"))) aj)) aj)) (ae (eFn cO (ae (af 4) aj)) aj)))))))
abbrev fA:Stmt:=top 23
theorem lV:FnScope ["_law_row_here"] ["_law_row_here"] (aB fA):=⟨rfl,rfl,rfl,by decide+kernel,rfl,by decide+kernel,by decide+kernel⟩
def cC:Fn:=mkF 1
  (bL (mN (af 0) (pAt (eOp fIx (tw (bM (eK (.str "say")) (eK (.int 2)) (bM (eK (.str "call")) (eK (.int 3)) (bM (eK (.str "within")) (eK (.int 2)) (bM (eK (.str "all")) (eK (.int 2)) (bM (eK (.str "ask")) (eK (.int 2)) (bM (eK (.str "by")) (eK (.int 3)) (bM (eK (.str "either")) (eK (.int 1)) (bM (eK (.str "again")) (eK (.int 1)) sC))))))))) (eOp fIx (af 0) (eK (.int 0))))) pNo))
abbrev fy:Stmt:=top 22
theorem lT:FnScope ["_law_one","_law_two"] ["_law_one","_law_two"] (aB fy):=⟨rfl,rfl,rfl,by decide+kernel,rfl,by decide+kernel,by decide+kernel⟩
def bA:Nat→Fn
 | 0=>fun _ _=>none
 | n+1=>mkF 2
  (ax (sIf (jT (eFn kh (ae (af 1) (ae (eK (.ty "tuple")) aj)))) (ax (sIf (tOr (oC (jT (eFn kh (ae (af 0) (ae (eK (.ty "tuple")) aj))))) (aY (eOp fJ (eFn dB (ae (af 0) aj)) (eFn dB (ae (af 1) aj))))) (bL (eK (.bl false))) cV)
  (bL (eFn xI (ae (eLv (dC [none,none] (xD (ae (af 0) (ae (af 1) aj))) (gT 2 (aU (gN 0) (aU (gN 1) dN))) fk (eFn (bA n) (ae (af 0) (ae (af 1) aj))))) aj)))) cV)
  (ax (sIf (aY (eOp vb (af 1) (eK .non))) (bL (eOp vb (af 0) (eK .non))) cV)
  (ax (sIf (jT (eFn kh (ae (af 1) (ae (eK (.ty "str")) aj)))) (bL (ph (eFn kh (ae (af 0) (ae (eK (.ty "str")) aj))) (eOp de (af 0) (af 1)))) cV)
  (ax (sIf (jT (eFn kh (ae (af 1) (ae (eK (.ty "bool")) aj)))) (bL (ph (eFn kh (ae (af 0) (ae (eK (.ty "bool")) aj))) (eOp de (af 0) (af 1)))) cV)
  (bL (ph (eFn kh (ae (af 0) (ae (eK (.ty "int")) aj))) (ph (xK (eFn kh (ae (af 0) (ae (eK (.ty "bool")) aj)))) (eOp de (af 0) (af 1)))))))))
abbrev g8:Stmt:=top 2
theorem oG:FnScope ["row"] ["row"] (aB g8):=⟨rfl,rfl,rfl,by decide+kernel,rfl,by decide+kernel,by decide+kernel⟩
def dQ:Fn:=mkF 1
  (bL (mN (af 0) (pAt (eOp fIx (eUn (xG fO) (eOp fIx (af 0) (eK (.int 0)))) (eK (.int 0)))) pNo))
abbrev gf:Stmt:=top 3
theorem cx:FnScope ["lot","ahead","found","number","row","path","at","inner"] ["lot","ahead"] (aB gf):=⟨rfl,rfl,rfl,by decide+kernel,rfl,by decide+kernel,by decide+kernel⟩
def cj:Nat→Fn
 | 0=>fun _ _=>none
 | n+1=>mkL 8
  (ax (bc 2 (eOb aj))
  (ax (gi (jz (ae (af 0) aj)) (gT 2 (aU (gN 3) (aU (gN 4) dN))) (ax (bc 5 (eOp aV (af 1) (eFn bg (ae (af 3) aj))))
  (ax (d9 (eM cb c6 (af 2) (ae (eFn bg (ae (af 5) (ae (af 4) aj))) aj)))
  (gi (jz (ae (eFn dQ (ae (af 4) aj)) aj)) (gT 2 (aU (gN 6) (aU (gN 7) dN))) (d9 (eM cb eg (af 2) (ae (eFn (cj n) (ae (af 7) (ae (eOp aV (af 5) (eFn bg (ae (af 6) aj))) aj))) aj)))))))
  (bL (af 2))))
abbrev fw:Stmt:=top 4
theorem cE:FnScope ["program","found","deed","name","params","rows"] ["program"] (aB fw):=⟨rfl,rfl,rfl,by decide+kernel,rfl,by decide+kernel,by decide+kernel⟩
def cT:Fn:=mkL 6
  (ax (bc 1 (eOb aj))
  (ax (gi (jz (ae (eOp fIx (af 0) (eK (.int 1))) aj)) (gT 2 (aU (gN 2) (aU (gT 3 (aU (gN 3) (aU (gN 4) (aU (gN 5) dN)))) dN))) (d9 (eM cb eg (af 1) (ae (eLv (dC [none,none,some 2] (ij (eFn (cj 10) (ae (af 5) (ae (eFn bg aj) aj)))) (gT 2 (aU (gN 0) (aU (gN 1) dN))) fk (eFn bg (ae (af 2) (ae (af 0) (ae (af 1) aj)))))) aj))))
  (bL (af 1))))
abbrev g7:Stmt:=top 5
theorem oF:FnScope ["program"] ["program"] (aB g7):=⟨rfl,rfl,rfl,by decide+kernel,rfl,by decide+kernel,by decide+kernel⟩
def dq:Fn:=mkF 1
  (bL (eFn cO (ae (eLv (dC [none,none,none] (ij (eFn cT (ae (af 0) aj))) (gT 3 (aU (gN 0) (aU (gN 1) (aU (gN 2) dN)))) fk (eFn bg (ae (af 0) (ae (af 2) aj))))) aj)))
abbrev iA:Stmt:=top 24
theorem dG:FnScope ["_law_script","_law_state","_law_k","_law_program_here","_law_due","_law_number","_law_deed","_law_params","_law_rows","_law_pile","_law_row_here","_law_lot_here"] ["_law_script"] (aB iA):=⟨rfl,rfl,rfl,by decide+kernel,rfl,by decide+kernel,by decide+kernel⟩
def qc:Fn:=mkF 12
  (ax (bc 1 (eFn cF (ae (af 0) aj)))
  (ax (gi (kd (ae (eK (.int 8)) aj)) (gN 2) (ax (bc 3 (eFn cB (ae (af 1) (ae (eFn aA (ae (af 1) (ae (eK (.lv [.int 8,.int 14,.int 60])) aj))) (ae (eFn aA (ae (af 1) (ae (eK (.lv [.int 0,.int 12,.int 4])) aj))) aj)))))
  (ax (bc 4 (eOb aj))
  (ax (gi (jz (ae (eOp fIx (af 3) (eK (.int 1))) aj)) (gT 2 (aU (gN 5) (aU (gT 3 (aU (gN 6) (aU (gN 7) (aU (gN 8) dN)))) dN))) (ax (bc 9 (eOb (lH (ae (jE (af 8) (eUn iI (eK (.int 1)))) aj))))
  (ej (aY (eOp fJ (af 9) (eLv aj))) (ax (bc 10 (eM cb qB (af 9) aj))
  (ax (d9 (eM cb c6 (af 4) (ae (eFn bg (ae (af 5) (ae (af 10) aj))) aj)))
  (gi (ij (jE (eFn cC (ae (af 10) aj)) (eUn iI (eK (.int 1))))) (gN 11) (d9 (eM cb eg (af 9) (ae (eLv (lH (ae (jE (af 11) (eUn iI (eK (.int 1)))) aj))) aj)))))) 1000)))
  (sIf (oC (jT (eFn (bA 20) (ae (eFn dq (ae (af 3) aj)) (ae (eFn cO (ae (af 4) aj)) aj))))) (bL (eK (.bl false))) cV)))))
  (bL (eFn (bA 20) (ae (eFn dq (ae (eFn bg (ae (eFn bg (ae (eK (.str "a")) aj)) (ae (eFn bg (ae (eFn bg (ae (eK (.str "b")) (ae (eFn bg aj) (ae (eFn bg aj) aj)))) aj)) aj))) aj)) (ae (eFn bg aj) aj))))))
section
variable {P:Program} {w:World} {K:PySem.W.Frag} {mg:Str→Option Value} {base:Heap}
theorem j9 {f:Addr} {fd:FuncData} (F:Fun K "_law_drawn" "_law_drawn" eT f fd) (B:Bs P w K mg):FnOk P w K mg base CX0 1 f fd ["_law_script"] (spF K 1 cF):=
 (bG F jV fun cdv A outer s H E hr=>by (conv=>arg 2;whnf);with_reducible exact (aq (aH (SFL.ob (bE (aa ai (aa (SFL.ob (lP (by unfold Gl;kernel_rfl) B.list_ iY (aa (g0 (sv 0) fS (fR ai)) ag) (ab ah))) (aa ai ag))) (ab (ab (ab ah))))))))
theorem mC {f:Addr} {fd:FuncData} (F:Fun K "_law_load" "_law_load" fC f fd) (B:Bs P w K mg):FnOk P w K mg base CX0 1 f fd ["_law_state"] (spF K 1 dD):=
 (bG F cc fun cdv A outer s H E hr=>by (conv=>arg 2;whnf);with_reducible exact (ak (sset 1 cc.nd (ar hr.units (sv 0) ai))
   (ak (sset 2 cc.nd (ar hr.units (sv 0) ai))
   (ak (eN (aG aJ (sv 2) ai) (gZ hr.units (sv 0) ai))
   (ak (sset 3 cc.nd ai)
   (ak (bS (aP (ju hr.units) (sv 1) (SFL.lv (bE ag ah)) (aF _)) (aq (sset 3 cc.nd (ar hr.units (sv 1) (aG gq (sv 2) (ay cP (by unfold Gl;kernel_rfl) B.len_ cR (aa (sv 1) ag)))))) bo)
   (aq (bS (SW.st (gb (aP nP (sv 2) (ay cP (by unfold Gl;kernel_rfl) B.len_ cR (aa (sv 1) ag)) (aF _)) (fP (aP vA (ay tH (by unfold Gl;kernel_rfl) B.abs_ tV (aa (sv 3) ag)) (aG sE ai ai) (aF _))))) (aq (eN (ay tH (by unfold Gl;kernel_rfl) B.abs_ tV (aa (sv 3) ag)) (gZ hr.units (sv 0) ai))) (ak (sset 4 cc.nd (aG gq (aG eX (aG aJ (aG aJ (aG gq (sv 3) ai) (aG eX (aG eX ai (sv 2)) (sv 2))) ai) ai) ai))
   (ak (sset 4 cc.nd (aG gq (aG eX (sv 4) (sv 4)) ai))
   (aq (eN (aG aJ (aG gq (aG aJ (aG aJ (aG eX (sv 4) ai) (sv 2)) ai) ai) (aG sE ai ai)) (gZ hr.units (sv 0) ai)))))))))))))
theorem mx {f:Addr} {fd:FuncData} (F:Fun K "_law_next" "_law_next" fz f fd) (B:Bs P w K mg) (d__law_load:Df P w K mg base "_law_load" 1 ["_law_state"] 1 dD):FnOk P w K mg base CX0 2 f fd ["_law_state","_law_many"] (spF K 2 av):=
 (bG F gD fun cdv A outer s H E hr=>by (conv=>arg 2;whnf);with_reducible exact (ak (bS (aP nP (ar hr.units (sv 0) ai) (sv 1) (aF _)) (aq (du (az d__law_load hr (by decide) (aa (sv 0) ag) (ab ah)))) bo)
   (ak (sset 2 gD.nd (aG gq (ar hr.units (sv 0) ai) (sv 1)))
   (ak (eN (aG w9 (ar hr.units (sv 0) ai) (sv 1)) (gZ hr.units (sv 0) ai))
   (aq (aH (sv 2)))))))
theorem oS {f:Addr} {fd:FuncData} (F:Fun K "_law_of" "_law_of" g9 f fd) (B:Bs P w K mg) (d__law_next:Df P w K mg base "_law_next" 2 ["_law_state","_law_many"] 2 av):FnOk P w K mg base CX0 3 f fd ["_law_state","_law_some"] (spF K 2 aA):=
 (bG F oH fun cdv A outer s H E hr=>by (conv=>arg 2;whnf);with_reducible exact (aq (aH (ar hr.units (sv 1) (az d__law_next hr (by decide) (aa (sv 0) (aa (ay cP (by unfold Gl;kernel_rfl) B.len_ cR (aa (sv 1) ag)) ag)) (ab (ab ah)))))))
theorem j8 {f:Addr} {fd:FuncData} (F:Fun K "_law_words" "_law_words" eS f fd) (B:Bs P w K mg) (d__law_of:Df P w K mg base "_law_of" 3 ["_law_state","_law_some"] 2 aA) (d__law_next:Df P w K mg base "_law_next" 2 ["_law_state","_law_many"] 2 av):FnOk P w K mg base CX0 4 f fd ["_law_state","_law_many"] (spF K 2 ck):=
 (bG F bu fun cdv A outer s H E hr=>by (conv=>arg 2;whnf);with_reducible exact (ak (sset 2 bu.nd ao)
   (ak (sset 3 bu.nd ao)
   (ak (dR PassesOwn.never rfl (cS (by unfold Gl;kernel_rfl) B.range_ (aa (az d__law_of hr (by decide) (aa (sv 0) (aa (cN 9 (by kernel_rfl)) ag)) (ab (ab ah))) ag) (hl:=(ab ah))) (sgn 4 bu.nd) (aq (sset 3 bu.nd (aG aJ (sv 3) (ar hr.units (sv 2) (az d__law_next hr (by decide) (aa (sv 0) (aa ai ag)) (ab (ab ah))))))))
   (ak (sset 5 bu.nd (az d__law_next hr (by decide) (aa (sv 0) (aa (aG aJ (ay cP (by unfold Gl;kernel_rfl) B.len_ cR (aa (sv 3) ag)) ai) ag)) (ab (ab ah))))
   (ak (sset 6 bu.nd (az d__law_next hr (by decide) (aa (sv 0) (aa ai ag)) (ab (ab ah))))
   (ak (sset 7 bu.nd (az d__law_of hr (by decide) (aa (sv 0) (aa (cN 9 (by kernel_rfl)) ag)) (ab (ab ah))))
   (aq (aH (eP (N':=["_law_k","_law_at","_law_first","_law_letters","_law_stem","_law_stride"]) (caps:=[none,some 5,some 6,some 2,some 3,some 7]) (bD (by kernel_rfl)) rfl (cS (by unfold Gl;kernel_rfl) B.range_ (aa (sv 1) ag) (hl:=(ab ah))) (fun _ _ _ _ _=>(sgn 0 (by show (["_law_k","_law_at","_law_first","_law_letters","_law_stem","_law_stride"]:List Str).Nodup;decide+kernel))) (fun _ _ _ _ _=>dw) (fun _ _ _ _ _=>(aG aJ (aG aJ (g0 (sv 4) fS (fR (sv 1))) (ar hr.units (sv 3) (aG gq (aG aJ (sv 2) (aG eX (sv 5) (sv 0))) ai))) (g0 (sv 4) (fR (sv 1)) fS)))))))))))))
theorem j7 {f:Addr} {fd:FuncData} (F:Fun K "_law_world" "_law_world" eR f fd) (B:Bs P w K mg) (d__law_words:Df P w K mg base "_law_words" 4 ["_law_state","_law_many"] 2 ck) (d__law_of:Df P w K mg base "_law_of" 3 ["_law_state","_law_some"] 2 aA) (d__law_next:Df P w K mg base "_law_next" 2 ["_law_state","_law_many"] 2 av):FnOk P w K mg base CX0 5 f fd ["_law_state","_law_most","_law_odd"] (spF K 3 dc):=
 (bG F bQ fun cdv A outer s H E hr=>by (conv=>arg 2;whnf);with_reducible exact (ak (sset 3 bQ.nd (az d__law_words hr (by decide) (aa (sv 0) (aa (az d__law_of hr (by decide) (aa (sv 0) (aa (cN 9 (by kernel_rfl)) ag)) (ab (ab ah))) ag)) (ab (ab ah))))
   (ak (sset 4 bQ.nd (az d__law_words hr (by decide) (aa (sv 0) (aa (az d__law_of hr (by decide) (aa (sv 0) (aa (cN 9 (by kernel_rfl)) ag)) (ab (ab ah))) ag)) (ab (ab ah))))
   (ak (sset 5 bQ.nd (az d__law_words hr (by decide) (aa (sv 0) (aa ai ag)) (ab (ab ah))))
   (ak (fQ (i:=6) bQ.nd (by kernel_rfl) (by kernel_rfl) (N':=["_law_deed","_law_state"]) (caps:=[none,some 0]) (bD (by kernel_rfl)) rfl (er (sv 4)) (fun _ _ _ _ _=>(sgn 0 (by show (["_law_deed","_law_state"]:List Str).Nodup;decide+kernel))) (fun _ _ _ _ _=>dw) (fun _ _ _ _ _=>(az d__law_of hr (by decide) (aa (sv 1) (aa (cN 9 (by kernel_rfl)) ag)) (ab (ab ah)))))
   (ak (sset 7 bQ.nd (ay tG (by unfold Gl;kernel_rfl) B.sorted_ lx (aa (eP (N':=["_law_deed","_law_names","_law_state"]) (caps:=[none,some 3,some 0]) (bD (by kernel_rfl)) rfl (er (sv 4)) (fun _ _ _ _ _=>(sgn 0 (by show (["_law_deed","_law_names","_law_state"]:List Str).Nodup;decide+kernel))) (fun _ _ _ _ _=>dw) (fun _ _ _ _ _=>(az d__law_next hr (by decide) (aa (sv 2) (aa (ay cP (by unfold Gl;kernel_rfl) B.len_ cR (aa (sv 1) ag)) ag)) (ab (ab ah))))) ag)))
   (ak (sset 5 bQ.nd (eP (N':=["_law_k","_law_params"]) (caps:=[none,some 5]) (bD (by kernel_rfl)) rfl (er (sv 6)) (fun _ _ _ _ _=>(sgn 0 (by show (["_law_k","_law_params"]:List Str).Nodup;decide+kernel))) (fun _ _ _ _ _=>dw) (fun _ _ _ _ _=>(g0 (sv 1) fS (fR (sv 0))))))
   (aq (aH (rN (cv ao (sv 3) (cv ao (sv 4) (cv ao (sv 5) (cv ao (sv 7) (cv ao (sv 1) (cv ao (sv 2) rG)))))) (by kernel_rfl) (by kernel_rfl) (by simp) fun trs h=>pR h (by kernel_rfl) (by kernel_rfl) (by simp) (by decide)))))))))))
theorem jv {f:Addr} {fd:FuncData} (F:Fun K "_law_is_odd" "_law_is_odd" eu f fd) (B:Bs P w K mg) (d__law_next:Df P w K mg base "_law_next" 2 ["_law_state","_law_many"] 2 av):FnOk P w K mg base CX0 3 f fd ["_law_state","_law_world_here"] (spF K 2 bB):=
 (bG F jd fun cdv A outer s H E hr=>by (conv=>arg 2;whnf);with_reducible exact (aq (aH (jc (eQ iE (ar hr.units (sv 1) ao) ai (aF _)) (lR (eQ (bX hr.units) (az d__law_next hr (by decide) (aa (sv 0) (aa (ar hr.units (sv 1) ao) ag)) (ab (ab ah))) ai (aF _)))))))
theorem mw {f:Addr} {fd:FuncData} (F:Fun K "_law_term" "_law_term" fx f fd) (B:Bs P w K mg) (d__law_next:Df P w K mg base "_law_next" 2 ["_law_state","_law_many"] 2 av) (d__law_of:Df P w K mg base "_law_of" 3 ["_law_state","_law_some"] 2 aA):FnOk P w K mg base CX0 4 f fd ["_law_state","_law_params"] (spF K 2 ba):=
 (bG F gC fun cdv A outer s H E hr=>by (conv=>arg 2;whnf);with_reducible exact (ak (sset 2 gC.nd (aG jt (az d__law_next hr (by decide) (aa (sv 0) (aa ai ag)) (ab (ab ah))) ai))
   (ak (bS (SW.st (gb (aP iE (ay cP (by unfold Gl;kernel_rfl) B.len_ cR (aa (sv 1) ag)) ai (aF _)) (fP (aP iE (az d__law_next hr (by decide) (aa (sv 0) (aa ai ag)) (ab (ab ah))) ai (aF _))))) (aq (aH (aw (aa (az d__law_of hr (by decide) (aa (sv 0) (aa (sv 1) ag)) (ab (ab ah))) (aa (az d__law_of hr (by decide) (aa (sv 0) (aa (SFL.lv (bE (aa ai (aa ai (aa ai (aa ai (aa ai (aa ai (aa (iy fo ai) (aa ai (aa (sv 2) ag))))))))) (ab (ab (ab (ab (ab (ab (ab (ab (ab ah))))))))))) ag)) (ab (ab ah))) ag)) (ab (ab ah))))) bo)
   (aq (aH (aw (aa ao (aa (az d__law_of hr (by decide) (aa (sv 0) (aa (SFL.lv (bE (aa ai (aa ai (aa ai (aa ai (aa ai (aa ai (aa (iy fo ai) (aa (sv 2) ag)))))))) (ab (ab (ab (ab (ab (ab (ab (ab ah)))))))))) ag)) (ab (ab ah))) ag)) (ab (ab ah))))))))
theorem mD {f:Addr} {fd:FuncData} (F:Fun K "_law_call" "_law_call" fD f fd) (B:Bs P w K mg) (d__law_is_odd:Df P w K mg base "_law_is_odd" 3 ["_law_state","_law_world_here"] 2 bB) (d__law_of:Df P w K mg base "_law_of" 3 ["_law_state","_law_some"] 2 aA) (d__law_term:Df P w K mg base "_law_term" 4 ["_law_state","_law_params"] 2 ba):FnOk P w K mg base CX0 5 f fd ["_law_state","_law_world_here","_law_deed","_law_top"] (spF K 4 dE):=
 (bG F c5 fun cdv A outer s H E hr=>by (conv=>arg 2;whnf);with_reducible exact (ak (fQ (i:=4) c5.nd (by kernel_rfl) (by kernel_rfl) (N':=["_law_k","_law_deed","_law_top","_law_world_here"]) (caps:=[none,some 2,some 3,some 1]) (bD (by kernel_rfl)) rfl (cS (by unfold Gl;kernel_rfl) B.range_ (aa (ay cP (by unfold Gl;kernel_rfl) B.len_ cR (aa (ar hr.units (sv 1) ao) ag)) ag) (hl:=(ab ah))) (fun _ _ _ _ _=>(sgn 0 (by show (["_law_k","_law_deed","_law_top","_law_world_here"]:List Str).Nodup;decide+kernel))) (fun _ _ _ _ _=>(lO (SW.st (gb (aP iE (ar hr.units (ar hr.units (sv 3) ao) (sv 0)) (sv 2) (aF _)) (fP (aP vA (sv 0) (sv 1) (aF _))))))) (fun _ _ _ _ _=>(sv 0)))
   (ak (bS (ft (az d__law_is_odd hr (by decide) (aa (sv 0) (aa (sv 1) ag)) (ab (ab ah)))) (aq (sset 4 c5.nd (SFL.lv (qo rfl (by unfold Gl;kernel_rfl) B.list_ (by unfold Gl;kernel_rfl) B.range_ iY (aa (ay cP (by unfold Gl;kernel_rfl) B.len_ cR (aa (ar hr.units (sv 1) ao) ag)) ag))))) bo)
   (ak (bS (aP (bX hr.units) (sv 4) (SFL.lv (bE ag ah)) (aF _)) (aq (aH (aw (aa ao (aa (ar hr.units (ar hr.units (sv 1) ao) (sv 2)) ag)) (ab (ab ah))))) bo)
   (ak (sset 5 c5.nd (az d__law_of hr (by decide) (aa (sv 0) (aa (sv 4) ag)) (ab (ab ah))))
   (ak (fQ (i:=6) c5.nd (by kernel_rfl) (by kernel_rfl) (N':=["_law_one","_law_deed","_law_state","_law_world_here"]) (caps:=[none,some 2,some 0,some 1]) (bD (by kernel_rfl)) rfl (er (ar hr.units (ar hr.units (sv 1) ao) (sv 5))) (fun _ _ _ _ _=>(sgn 0 (by show (["_law_one","_law_deed","_law_state","_law_world_here"]:List Str).Nodup;decide+kernel))) (fun _ _ _ _ _=>dw) (fun _ _ _ _ _=>(az d__law_term hr (by decide) (aa (sv 2) (aa (ar hr.units (ar hr.units (sv 3) ao) (sv 1)) ag)) (ab (ab ah)))))
   (aq (aH (aw (aa ao (aa (ar hr.units (ar hr.units (sv 1) ao) (sv 5)) (aa (bV cM (by unfold Gl;kernel_rfl) B.tuple_ cn (aa (sv 6) ag)) ag))) (ab (ab (ab ah))))))))))))
theorem mB {f:Addr} {fd:FuncData} (F:Fun K "_law_lock" "_law_lock" fB f fd) (B:Bs P w K mg) (d__law_next:Df P w K mg base "_law_next" 2 ["_law_state","_law_many"] 2 av) (d__law_is_odd:Df P w K mg base "_law_is_odd" 3 ["_law_state","_law_world_here"] 2 bB) (d__law_term:Df P w K mg base "_law_term" 4 ["_law_state","_law_params"] 2 ba):FnOk P w K mg base CX0 5 f fd ["_law_state","_law_world_here","_law_deed","_law_top","_law_held"] (spF K 5 cU):=
 (bG F bK fun cdv A outer s H E hr=>by (conv=>arg 2;whnf);with_reducible exact (ak (sset 5 bK.nd (ay (jG rfl) (by unfold Gl;kernel_rfl) B.max_ jP (aa (sv 3) (aa (ar hr.units (ar hr.units (sv 1) ao) (sv 2)) ag))))
   (ak (bS (aP (bX hr.units) (sv 5) (ay cP (by unfold Gl;kernel_rfl) B.len_ cR (aa (ar hr.units (sv 1) ao) ag)) (aF _)) (aq (aH (aw (aa g6 (aa g6 ag)) (ab (ab ah))))) bo)
   (ak (sset 6 bK.nd (aG aJ (sv 5) (az d__law_next hr (by decide) (aa (sv 0) (aa (aG jt (ay cP (by unfold Gl;kernel_rfl) B.len_ cR (aa (ar hr.units (sv 1) ao) ag)) (sv 5)) ag)) (ab (ab ah)))))
   (ak (bS (ft (az d__law_is_odd hr (by decide) (aa (sv 0) (aa (sv 1) ag)) (ab (ab ah)))) (aq (sset 6 bK.nd (az d__law_next hr (by decide) (aa (sv 0) (aa (ay cP (by unfold Gl;kernel_rfl) B.len_ cR (aa (ar hr.units (sv 1) ao) ag)) ag)) (ab (ab ah))))) bo)
   (ak (sset 7 bK.nd (ar hr.units (ar hr.units (sv 1) ao) (sv 6)))
   (ak (fQ (i:=8) bK.nd (by kernel_rfl) (by kernel_rfl) (N':=["_law_lock_here","_law_name"]) (caps:=[none,some 7]) (bD (by kernel_rfl)) rfl (er (sv 4)) (fun _ _ _ _ _=>(sgn 0 (by show (["_law_lock_here","_law_name"]:List Str).Nodup;decide+kernel))) (fun _ _ _ _ _=>(lO (aP (bX hr.units) (ar hr.units (sv 0) ai) (sv 1) (aF _)))) (fun _ _ _ _ _=>(ar hr.units (sv 0) ai)))
   (ak (bS (SW.st (gb (aP (ju hr.units) (sv 8) (SFL.lv (bE ag ah)) (aF _)) (fP (oD (ft (az d__law_is_odd hr (by decide) (aa (sv 0) (aa (sv 1) ag)) (ab (ab ah)))))))) (ak (eN (ar hr.units (sv 8) (iy fo ai)) (cZ rfl (aC (sgn 9 bK.nd) (aC (sgn 10 bK.nd) cw))))
   (aq (aH (aw (aa (sv 6) (aa (aw (aa (sv 7) (aa (aw (aa (sv 9) (aa (ay (xM rfl) (by unfold Gl;kernel_rfl) B.min_ xP (aa ai (aa (aG aJ (aG aJ (sv 10) ai) (az d__law_next hr (by decide) (aa (sv 0) (aa ai ag)) (ab (ab ah)))) ag))) ag)) (ab (ab ah))) ag)) (ab (ab ah))) ag)) (ab (ab ah)))))) bo)
   (aq (aH (aw (aa (sv 6) (aa (aw (aa (sv 7) (aa (az d__law_term hr (by decide) (aa (sv 0) (aa (ar hr.units (ar hr.units (sv 1) ao) (sv 2)) ag)) (ab (ab ah))) ag)) (ab (ab ah))) ag)) (ab (ab ah)))))))))))))
theorem pS {f1:Addr} {fd1:FuncData} (F1:Fun K "_law_lot" "_law_lot" gh f1 fd1) (kf1:PySem.W.keepIn K (.ref f1)=true) (bf1:Binds K fd1 ["_law_state","_law_world_here","_law_deed","_law_deep","_law_top","_law_held","_law_most"] []) (mf1:mg "_law_lot"=some (.ref f1)) {f2:Addr} {fd2:FuncData} (F2:Fun K "_law_row" "_law_row" gg f2 fd2) (kf2:PySem.W.keepIn K (.ref f2)=true) (bf2:Binds K fd2 ["_law_state","_law_world_here","_law_deed","_law_deep","_law_top","_law_held"] []) (mf2:mg "_law_row"=some (.ref f2)) {f3:Addr} {fd3:FuncData} (F3:Fun K "_law_locked" "_law_locked" et f3 fd3) (kf3:PySem.W.keepIn K (.ref f3)=true) (bf3:Binds K fd3 ["_law_state","_law_world_here","_law_deed","_law_deep","_law_top","_law_held","_law_way"] []) (mf3:mg "_law_locked"=some (.ref f3)) {f4:Addr} {fd4:FuncData} (F4:Fun K "_law_two_ways" "_law_two_ways" dH f4 fd4) (kf4:PySem.W.keepIn K (.ref f4)=true) (bf4:Binds K fd4 ["_law_state","_law_world_here","_law_deed","_law_deep","_law_top","_law_held"] []) (mf4:mg "_law_two_ways"=some (.ref f4)) (B:Bs P w K mg) (d__law_next:Df P w K mg base "_law_next" 2 ["_law_state","_law_many"] 2 av) (d__law_of:Df P w K mg base "_law_of" 3 ["_law_state","_law_some"] 2 aA) (d__law_call:Df P w K mg base "_law_call" 5 ["_law_state","_law_world_here","_law_deed","_law_top"] 4 dE) (d__law_term:Df P w K mg base "_law_term" 4 ["_law_state","_law_params"] 2 ba) (d__law_lock:Df P w K mg base "_law_lock" 5 ["_law_state","_law_world_here","_law_deed","_law_top","_law_held"] 5 cU):∀n,FnOk P w K mg base CX0 (6+n) f1 fd1 ["_law_state","_law_world_here","_law_deed","_law_deep","_law_top","_law_held","_law_most"] (spF K 7 (aZ n))∧FnOk P w K mg base CX0 (6+n) f2 fd2 ["_law_state","_law_world_here","_law_deed","_law_deep","_law_top","_law_held"] (spF K 6 (dr n))∧FnOk P w K mg base CX0 (6+n) f3 fd3 ["_law_state","_law_world_here","_law_deed","_law_deep","_law_top","_law_held","_law_way"] (spF K 7 (cp n))∧FnOk P w K mg base CX0 (6+n) f4 fd4 ["_law_state","_law_world_here","_law_deed","_law_deep","_law_top","_law_held"] (spF K 6 (bJ n))
 | 0=>⟨fT,fT,fT,fT⟩
 | n+1=>by
  obtain ⟨i1,i2,i3,i4⟩:=pS F1 kf1 bf1 mf1 F2 kf2 bf2 mf2 F3 kf3 bf3 mf3 F4 kf4 bf4 mf4 B d__law_next d__law_of d__law_call d__law_term d__law_lock n
  have d__law_lot:Df P w K mg base "_law_lot" (6+n) ["_law_state","_law_world_here","_law_deed","_law_deep","_law_top","_law_held","_law_most"] 7 (aZ n):=⟨f1,fd1,i1,kf1,bf1,mf1⟩
  have d__law_row:Df P w K mg base "_law_row" (6+n) ["_law_state","_law_world_here","_law_deed","_law_deep","_law_top","_law_held"] 6 (dr n):=⟨f2,fd2,i2,kf2,bf2,mf2⟩
  have d__law_locked:Df P w K mg base "_law_locked" (6+n) ["_law_state","_law_world_here","_law_deed","_law_deep","_law_top","_law_held","_law_way"] 7 (cp n):=⟨f3,fd3,i3,kf3,bf3,mf3⟩
  have d__law_two_ways:Df P w K mg base "_law_two_ways" (6+n) ["_law_state","_law_world_here","_law_deed","_law_deep","_law_top","_law_held"] 6 (bJ n):=⟨f4,fd4,i4,kf4,bf4,mf4⟩
  refine ⟨?_,?_,?_,?_⟩
  ·exact eG (bG F1 fv fun cdv A outer s H E hr=>by (conv=>arg 2;whnf);with_reducible exact (ak (sset 7 fv.nd (SFL.ob (bE ag ah)))
   (ak (dR PassesOwn.never rfl (cS (by unfold Gl;kernel_rfl) B.range_ (aa (az d__law_next hr (Nat.le_trans (by decide) (Nat.le_add_right _ _)) (aa (sv 0) (aa (aG aJ (az d__law_of hr (Nat.le_trans (by decide) (Nat.le_add_right _ _)) (aa (sv 0) (aa (aG aJ (aG sD (SFL.lv (bE (aa (sv 6) ag) (ab ah))) ai) (SFL.lv (bE (aa ai ag) (ab ah)))) ag)) (ab (ab ah))) ai) ag)) (ab (ab ah))) ag) (hl:=(ab ah))) (sgn 8 fv.nd) (aq (bS (aP iE (ar hr.units (sv 1) ao) ai (aF _)) (ak (eN (aG jt (ar hr.units (sv 1) ao) ai) (gZ hr.units (sv 1) ao))
   (aq (du (lS (isT:=cb) en PySem.F.plainAttrs_list PySem.F.slot_list_append PySem.F.type_list_append dP (sv 7) (aa (az d__law_row hr (Nat.le_refl _) (aa (sv 0) (aa (sv 1) (aa (sv 2) (aa (sv 3) (aa (sv 4) (aa (sv 5) ag)))))) (ab (ab (ab (ab (ab (ab ah))))))) ag))))) bo)))
   (aq (aH (bV cM (by unfold Gl;kernel_rfl) B.tuple_ cn (aa (sv 7) ag)))))))
  ·exact (bG F2 cy fun cdv A outer s H E hr=>by (conv=>arg 2;whnf);with_reducible exact (ak (sset 6 cy.nd (az d__law_next hr (Nat.le_trans (by decide) (Nat.le_add_right _ _)) (aa (sv 0) (aa ai ag)) (ab (ab ah))))
   (ak (bS (SW.st (pK (aP nP (sv 6) ai (aF _)) (lK (SW.st (gb (aP (bX hr.units) (sv 3) ai (aF _)) (fP (aP nP (sv 6) ai (aF _)))))))) (aq (aH (aw (aa ao (aa (az d__law_of hr (Nat.le_trans (by decide) (Nat.le_add_right _ _)) (aa (sv 0) (aa (aG aJ (ar hr.units (sv 1) ao) (ar hr.units (sv 1) ao)) ag)) (ab (ab ah))) ag)) (ab (ab ah))))) bo)
   (ak (bS (SW.st (pK (aP iE (sv 6) ai (aF _)) (lK (aP (bX hr.units) (sv 3) ai (aF _))))) (aq (aH (az d__law_call hr (Nat.le_trans (by decide) (Nat.le_add_right _ _)) (aa (sv 0) (aa (sv 1) (aa (sv 2) (aa (sv 4) ag)))) (ab (ab (ab (ab ah))))))) bo)
   (ak (bS (SW.st (gb (aP (bX hr.units) (sv 6) ai (aF _)) (gb (aP nP (sv 3) ai (aF _)) (fP (aP iE (ar hr.units (sv 1) ao) ai (aF _)))))) (aq (aH (az d__law_two_ways hr (Nat.le_refl _) (aa (sv 0) (aa (sv 1) (aa (sv 2) (aa (sv 3) (aa (sv 4) (aa (sv 5) ag)))))) (ab (ab (ab (ab (ab (ab ah))))))))) bo)
   (ak (bS (SW.st (pK (aP (bX hr.units) (sv 6) ai (aF _)) (lK (aP (bX hr.units) (sv 6) ai (aF _))))) (ak (vL 7 8 cy.nd (ab (ab ah)) rfl (by decide) (by with_unfolding_all exact (oM rfl cy.nd rfl rfl (by decide) rfl rfl (aa (az d__law_term hr (Nat.le_trans (by decide) (Nat.le_add_right _ _)) (aa (sv 0) (aa (ar hr.units (ar hr.units (sv 1) ao) (sv 2)) ag)) (ab (ab ah))) (aa (az d__law_term hr (Nat.le_trans (by decide) (Nat.le_add_right _ _)) (aa (sv 0) (aa (ar hr.units (ar hr.units (sv 1) ao) (sv 2)) ag)) (ab (ab ah))) ag)) rfl)))
   (ak (fQ (i:=9) cy.nd (by kernel_rfl) (by kernel_rfl) (N':=["_law_k","_law_deed","_law_deep","_law_held","_law_state","_law_top","_law_world_here"]) (caps:=[none,some 2,some 3,some 5,some 0,some 4,some 1]) (bD (by kernel_rfl)) rfl (cS (by unfold Gl;kernel_rfl) B.range_ (aa ai ag) (hl:=(ab ah))) (fun _ _ _ _ _=>(sgn 0 (by show (["_law_k","_law_deed","_law_deep","_law_held","_law_state","_law_top","_law_world_here"]:List Str).Nodup;decide+kernel))) (fun _ _ _ _ _=>dw) (fun _ _ _ _ _=>(az d__law_lot hr (Nat.le_refl _) (aa (sv 4) (aa (sv 6) (aa (sv 1) (aa (aG aJ (sv 2) ai) (aa (sv 5) (aa (sv 3) (aa ai ag))))))) (ab (ab (ab (ab (ab (ab (ab ah))))))))))
   (aq (aH (aG aJ (aw (aa ao (aa (sv 7) (aa (sv 8) ag))) (ab (ab (ab ah)))) (bV cM (by unfold Gl;kernel_rfl) B.tuple_ cn (aa (sv 9) ag))))))) bo)
   (ak (bS (aP (bX hr.units) (sv 6) ai (aF _)) (ak (fQ (i:=9) cy.nd (by kernel_rfl) (by kernel_rfl) (N':=["_law_k","_law_deed","_law_deep","_law_held","_law_state","_law_top","_law_world_here"]) (caps:=[none,some 2,some 3,some 5,some 0,some 4,some 1]) (bD (by kernel_rfl)) rfl (cS (by unfold Gl;kernel_rfl) B.range_ (aa ai ag) (hl:=(ab ah))) (fun _ _ _ _ _=>(sgn 0 (by show (["_law_k","_law_deed","_law_deep","_law_held","_law_state","_law_top","_law_world_here"]:List Str).Nodup;decide+kernel))) (fun _ _ _ _ _=>dw) (fun _ _ _ _ _=>(az d__law_lot hr (Nat.le_refl _) (aa (sv 4) (aa (sv 6) (aa (sv 1) (aa (aG aJ (sv 2) ai) (aa (sv 5) (aa (sv 3) (aa ai ag))))))) (ab (ab (ab (ab (ab (ab (ab ah))))))))))
   (aq (aH (aG aJ (aw (aa ao ag) (ab ah)) (bV cM (by unfold Gl;kernel_rfl) B.tuple_ cn (aa (sv 9) ag)))))) bo)
   (ak (bS (aP (bX hr.units) (sv 6) ai (aF _)) (aq (aH (aw (aa ao (aa (az d__law_lot hr (Nat.le_refl _) (aa (sv 0) (aa (sv 1) (aa (sv 2) (aa (aG aJ (sv 3) ai) (aa (sv 4) (aa (sv 5) (aa ai ag))))))) (ab (ab (ab (ab (ab (ab (ab ah)))))))) ag)) (ab (ab ah))))) bo)
   (ak (sset 10 cy.nd (az d__law_of hr (Nat.le_trans (by decide) (Nat.le_add_right _ _)) (aa (sv 0) (aa (cN 9 (by kernel_rfl)) ag)) (ab (ab ah))))
   (aq (aH (az d__law_locked hr (Nat.le_refl _) (aa (sv 0) (aa (sv 1) (aa (sv 2) (aa (sv 3) (aa (sv 4) (aa (sv 5) (aa (sv 10) ag))))))) (ab (ab (ab (ab (ab (ab (ab ah)))))))))))))))))))
  ·exact eG (bG F3 aN fun cdv A outer s H E hr=>by (conv=>arg 2;whnf);with_reducible exact (ak (eN (az d__law_lock hr (Nat.le_trans (by decide) (Nat.le_add_right _ _)) (aa (sv 0) (aa (sv 1) (aa (sv 2) (aa (sv 4) (aa (sv 5) ag))))) (ab (ab (ab (ab (ab ah)))))) (cZ rfl (aC (sgn 7 aN.nd) (aC (sgn 8 aN.nd) cw))))
   (ak (bS (aP oO (sv 7) g6 (aF _)) (aq (aH (aw (aa ao (aa (ar hr.units (ar hr.units (sv 1) ao) (sv 2)) ag)) (ab (ab ah))))) bo)
   (ak (bS (aP (bX hr.units) (sv 6) ao (aF _)) (ak (vL 9 10 aN.nd (ab (ab ah)) rfl (by decide) (by with_unfolding_all exact (oM rfl aN.nd rfl rfl (by decide) rfl rfl (aa (SFL.ob (bE (aa (sv 8) ag) (ab ah))) (aa (sv 7) ag)) rfl)))
   (ak (dR PassesOwn.never rfl (cS (by unfold Gl;kernel_rfl) B.range_ (aa (az d__law_of hr (Nat.le_trans (by decide) (Nat.le_add_right _ _)) (aa (sv 0) (aa (cN 9 (by kernel_rfl)) ag)) (ab (ab ah))) ag) (hl:=(ab ah))) (sgn 11 aN.nd) (ak (eN (az d__law_lock hr (Nat.le_trans (by decide) (Nat.le_add_right _ _)) (aa (sv 0) (aa (sv 1) (aa (sv 2) (aa (sv 4) (aa (sv 5) ag))))) (ab (ab (ab (ab (ab ah)))))) (cZ rfl (aC (sgn 12 aN.nd) (aC (sgn 13 aN.nd) cw))))
   (ak (sset 10 aN.nd (ay (jG rfl) (by unfold Gl;kernel_rfl) B.max_ jP (aa (sv 10) (aa (sv 12) ag))))
   (aq (sset 9 aN.nd (SFL.ob (vP (sv 9) (aG sD (SFL.lv (bE (aa (sv 13) ag) (ab ah))) (bV pA (by unfold Gl;kernel_rfl) B.int_ ng (aa (eQ (sF hr.units) (sv 13) (sv 9) (by kernel_rfl)) ag))))))))))
   (ak (bS (aP (bX hr.units) (ay cP (by unfold Gl;kernel_rfl) B.len_ cR (aa (sv 9) ag)) ai (aF _)) (aq (du (lS (isT:=cb) en PySem.F.plainAttrs_list PySem.F.slot_list_append PySem.F.type_list_append dP (sv 9) (aa (aw (aa (ar hr.units (sv 8) ai) (aa (aw (aa (ar hr.units (ar hr.units (sv 8) ai) ai) (aa (aG jt (aG aJ (ar hr.units (ar hr.units (sv 8) ai) ai) ai) (aG eX ai (bV pA (by unfold Gl;kernel_rfl) B.int_ ng (aa (eQ iE (ar hr.units (ar hr.units (sv 8) ai) ai) ai (aF _)) ag)))) ag)) (ab (ab ah))) ag)) (ab (ab ah))) ag)))) bo)
   (ak (sset 10 aN.nd (aG aJ (sv 10) (bV pA (by unfold Gl;kernel_rfl) B.int_ ng (aa (eQ (bX hr.units) (ar hr.units (sv 1) ao) ai (aF _)) ag))))
   (aq (aH (aw (aa ao (aa (bV cM (by unfold Gl;kernel_rfl) B.tuple_ cn (aa (sv 9) ag)) (aa (az d__law_lot hr (Nat.le_refl _) (aa (sv 0) (aa (sv 1) (aa (sv 2) (aa (aG aJ (sv 3) ai) (aa (ay (jG rfl) (by unfold Gl;kernel_rfl) B.max_ jP (aa (sv 4) (aa (sv 10) ag))) (aa (aG aJ (sv 5) (sv 9)) (aa ai ag))))))) (ab (ab (ab (ab (ab (ab (ab ah)))))))) ag))) (ab (ab (ab ah)))))))))) bo)
   (ak (sset 14 aN.nd (az d__law_lot hr (Nat.le_refl _) (aa (sv 0) (aa (sv 1) (aa (sv 2) (aa (aG aJ (sv 3) ai) (aa (ay (jG rfl) (by unfold Gl;kernel_rfl) B.max_ jP (aa (sv 4) (aa (sv 7) ag))) (aa (aG aJ (sv 5) (SFL.lv (bE (aa (sv 8) ag) (ab ah)))) (aa ai ag))))))) (ab (ab (ab (ab (ab (ab (ab ah)))))))))
   (ak (bS (aP (bX hr.units) (sv 6) ao (aF _)) (aq (aH (aw (aa ao (aa (sv 8) (aa (sv 14) (aa (az d__law_lot hr (Nat.le_refl _) (aa (sv 0) (aa (sv 1) (aa (sv 2) (aa (aG aJ (sv 3) ai) (aa (sv 4) (aa (sv 5) (aa ai ag))))))) (ab (ab (ab (ab (ab (ab (ab ah)))))))) ag)))) (ab (ab (ab (ab ah))))))) bo)
   (aq (aH (aw (aa ao (aa (sv 8) (aa (sv 14) ag))) (ab (ab (ab ah))))))))))))
  ·exact eG (bG F4 aR fun cdv A outer s H E hr=>by (conv=>arg 2;whnf);with_reducible exact (ak (sset 6 aR.nd (ay (jG rfl) (by unfold Gl;kernel_rfl) B.max_ jP (aa (sv 4) (aa (ar hr.units (ar hr.units (sv 1) ao) (sv 2)) ag))))
   (ak (bS (aP (bX hr.units) (sv 6) (ay cP (by unfold Gl;kernel_rfl) B.len_ cR (aa (ar hr.units (sv 1) ao) ag)) (aF _)) (aq (aH (aw (aa ao (aa (ar hr.units (ar hr.units (sv 1) ao) (sv 2)) ag)) (ab (ab ah))))) bo)
   (ak (bS (aP (ju hr.units) (eP (N':=["_law_lock_here","_law_low","_law_world_here"]) (caps:=[none,some 6,some 1]) (bD (by kernel_rfl)) rfl (er (sv 5)) (fun _ _ _ _ _=>(sgn 0 (by show (["_law_lock_here","_law_low","_law_world_here"]:List Str).Nodup;decide+kernel))) (fun _ _ _ _ _=>(lO (aP (bX hr.units) (ar hr.units (sv 0) ai) (ar hr.units (ar hr.units (sv 2) ao) (sv 1)) (aF _)))) (fun _ _ _ _ _=>(sv 0))) (SFL.lv (bE ag ah)) (aF _)) (aq (aH (aw (aa ao (aa (ar hr.units (ar hr.units (sv 1) ao) (sv 2)) ag)) (ab (ab ah))))) bo)
   (ak (sset 7 aR.nd (ar hr.units (ar hr.units (sv 1) ao) (sv 6)))
   (ak (eN (aG jt (ar hr.units (sv 1) ao) ai) (gZ hr.units (sv 1) ao))
   (ak (vL 8 9 aR.nd (ab (ab ah)) rfl (by decide) (by with_unfolding_all exact (oM rfl aR.nd rfl rfl (by decide) rfl rfl (aa (az d__law_term hr (Nat.le_trans (by decide) (Nat.le_add_right _ _)) (aa (sv 0) (aa (ar hr.units (ar hr.units (sv 1) ao) (sv 2)) ag)) (ab (ab ah))) (aa (az d__law_term hr (Nat.le_trans (by decide) (Nat.le_add_right _ _)) (aa (sv 0) (aa (ar hr.units (ar hr.units (sv 1) ao) (sv 2)) ag)) (ab (ab ah))) ag)) rfl)))
   (ak (sset 10 aR.nd (SFL.ob (bE ag ah)))
   (ak (dR PassesOwn.never rfl (er (SFL.lv (bE (aa (aw (aa (sv 8) (aa (sv 9) ag)) (ab (ab ah))) (aa (aw (aa (sv 9) (aa (sv 8) ag)) (ab (ab ah))) ag)) (ab (ab ah))))) (cZ rfl (aC (sgn 11 aR.nd) (aC (sgn 12 aR.nd) cw))) (ak (sset 13 aR.nd (az d__law_lot hr (Nat.le_refl _) (aa (sv 0) (aa (sv 1) (aa (sv 2) (aa (aG aJ (sv 3) ai) (aa (sv 6) (aa (aG aJ (sv 5) (SFL.lv (bE (aa (aw (aa (sv 7) (aa (sv 11) ag)) (ab (ab ah))) (aa (aw (aa (sv 7) (aa (sv 12) ag)) (ab (ab ah))) ag)) (ab (ab ah))))) (aa ai ag))))))) (ab (ab (ab (ab (ab (ab (ab ah)))))))))
   (aq (du (lS (isT:=cb) en PySem.F.plainAttrs_list PySem.F.slot_list_append PySem.F.type_list_append dP (sv 10) (aa (aw (aa (aw (aa ao (aa (aw (aa (sv 7) (aa (sv 11) ag)) (ab (ab ah))) (aa (aw (aa (aw (aa ao (aa (aw (aa (sv 7) (aa (sv 12) ag)) (ab (ab ah))) (aa (sv 13) ag))) (ab (ab (ab ah)))) ag) (ab ah)) ag))) (ab (ab (ab ah)))) ag) (ab ah)) ag))))))
   (aq (aH (aw (aa ao (aa (sv 8) (aa (sv 9) (aa (ar hr.units (sv 10) ai) (aa (aw (aa (aw (aa ao (aa (aw (aa (sv 7) (aa (sv 8) ag)) (ab (ab ah))) (aa (aw ag ah) ag))) (ab (ab (ab ah)))) ag) (ab ah)) (aa (ar hr.units (sv 10) ai) ag)))))) (ab (ab (ab (ab (ab (ab ah))))))))))))))))))
theorem iM {f:Addr} {fd:FuncData} (F:Fun K "_law_program" "_law_program" dS f fd) (B:Bs P w K mg) (d__law_world:Df P w K mg base "_law_world" 5 ["_law_state","_law_most","_law_odd"] 3 dc) (d__law_lot:Df P w K mg base "_law_lot" 26 ["_law_state","_law_world_here","_law_deed","_law_deep","_law_top","_law_held","_law_most"] 7 (aZ 20)) (d__law_of:Df P w K mg base "_law_of" 3 ["_law_state","_law_some"] 2 aA):FnOk P w K mg base CX0 27 f fd ["_law_state","_law_most","_law_odd"] (spF K 3 cB):=
 eG (bG F bH fun cdv A outer s H E hr=>by (conv=>arg 2;whnf);with_reducible exact (ak (sset 3 bH.nd (az d__law_world hr (by decide) (aa (sv 0) (aa (sv 1) (aa (sv 2) ag))) (ab (ab (ab ah)))))
   (ak (sset 4 bH.nd (SFL.ob (bE ag ah)))
   (ak (dR PassesOwn.never rfl (gB (by unfold Gl;kernel_rfl) B.enumerate_ (aa (ar hr.units (sv 3) ao) ag) (ab ah)) (cZ rfl (aC (sgn 5 bH.nd) (aC (sgn 6 bH.nd) cw))) (ak (sset 7 bH.nd (az d__law_lot hr (by decide) (aa (sv 0) (aa (sv 3) (aa (sv 5) (aa ai (aa (iy fo ai) (aa (SFL.lv (bE ag ah)) (aa (az d__law_of hr (by decide) (aa (sv 0) (aa (cN 9 (by kernel_rfl)) ag)) (ab (ab ah))) ag))))))) (ab (ab (ab (ab (ab (ab (ab ah)))))))))
   (aq (du (lS (isT:=cb) en PySem.F.plainAttrs_list PySem.F.slot_list_append PySem.F.type_list_append dP (sv 4) (aa (aw (aa (sv 6) (aa (bV cM (by unfold Gl;kernel_rfl) B.tuple_ cn (aa (ar hr.units (ar hr.units (sv 3) ao) (sv 5)) ag)) (aa (sv 7) ag))) (ab (ab (ab ah)))) ag))))))
   (aq (aH (aw (aa (bV cM (by unfold Gl;kernel_rfl) B.tuple_ cn (aa (ay tF (by unfold Gl;kernel_rfl) B.sorted_ lx (aa (ar hr.units (sv 3) ao) ag)) ag)) (aa (bV cM (by unfold Gl;kernel_rfl) B.tuple_ cn (aa (sv 4) ag)) ag)) (ab (ab ah)))))))))
theorem my {f:Addr} {fd:FuncData} (F:Fun K "_law_lots" "_law_lots" fA f fd) (B:Bs P w K mg):FnOk P w K mg base CX0 1 f fd ["_law_row_here"] (spF K 1 cC):=
 (bG F lV fun cdv A outer s H E hr=>by (conv=>arg 2;whnf);with_reducible exact (aq (aH (g0 (sv 0) (fR (ar hr.units (uh (cv ao ai (cv ao ai (cv ao ai (cv ao ai (cv ao ai (cv ao ai (cv ao ai (cv ao ai rG)))))))) (by kernel_rfl) (by kernel_rfl) (by simp) fun trs h=>pR h (by kernel_rfl) (by kernel_rfl) (by simp) (by decide)) (ar hr.units (sv 0) ai))) fS))))
theorem gH {f:Addr} {fd:FuncData} (F:Fun K "_law_same" "_law_same" fy f fd) (B:Bs P w K mg) (kf:PySem.W.keepIn K (.ref f)=true) (bf:Binds K fd ["_law_one","_law_two"] []) (mf:mg "_law_same"=some (.ref f)):∀n,FnOk P w K mg base CX0 (1+n) f fd ["_law_one","_law_two"] (spF K 2 (bA n))
 | 0=>fT
 | n+1=>by
  have d__law_same:Df P w K mg base "_law_same" (1+n) ["_law_one","_law_two"] 2 (bA n):=⟨f,fd,gH F B kf bf mf  n,kf,bf,mf⟩
  exact (bG F lT fun cdv A outer s H E hr=>by (conv=>arg 2;whnf);with_reducible exact (ak (bS (ft (ay fM (by unfold Gl;kernel_rfl) B.isinstance_ bz (aa (sv 1) (aa (iz (by unfold Gl;kernel_rfl) B.tuple_ cn) ag)))) (ak (bS (SW.st (pK (oD (ft (ay fM (by unfold Gl;kernel_rfl) B.isinstance_ bz (aa (sv 0) (aa (iz (by unfold Gl;kernel_rfl) B.tuple_ cn) ag))))) (lK (aP (ju hr.units) (ay cP (by unfold Gl;kernel_rfl) B.len_ cR (aa (sv 0) ag)) (ay cP (by unfold Gl;kernel_rfl) B.len_ cR (aa (sv 1) ag)) (aF _))))) (aq (aH rP)) bo)
   (aq (aH (ay (xN rfl) (by unfold Gl;kernel_rfl) B.all_ xQ (aa (eP (N':=["_law_a","_law_b"]) (caps:=[none,none]) (bD (by kernel_rfl)) rfl (vO (by unfold Gl;kernel_rfl) B.zip_ (aa (sv 0) (aa (sv 1) ag)) (ab (ab ah))) (fun _ _ _ _ _=>(cZ rfl (aC (sgn 0 (by show (["_law_a","_law_b"]:List Str).Nodup;decide+kernel)) (aC (sgn 1 (by show (["_law_a","_law_b"]:List Str).Nodup;decide+kernel)) cw)))) (fun _ _ _ _ _=>dw) (fun _ _ _ _ _=>(az d__law_same hr (Nat.le_refl _) (aa (sv 0) (aa (sv 1) ag)) (ab (ab ah))))) ag))))) bo)
   (ak (bS (aP oO (sv 1) g6 (aF _)) (aq (aH (eQ oO (sv 0) g6 (aF _)))) bo)
   (ak (bS (ft (ay fM (by unfold Gl;kernel_rfl) B.isinstance_ bz (aa (sv 1) (aa (iz (by unfold Gl;kernel_rfl) B.str_ tU) ag)))) (aq (aH (jc (ay fM (by unfold Gl;kernel_rfl) B.isinstance_ bz (aa (sv 0) (aa (iz (by unfold Gl;kernel_rfl) B.str_ tU) ag))) (lR (eQ (bX hr.units) (sv 0) (sv 1) (aF _)))))) bo)
   (ak (bS (ft (ay fM (by unfold Gl;kernel_rfl) B.isinstance_ bz (aa (sv 1) (aa (iz (by unfold Gl;kernel_rfl) B.bool_ ni) ag)))) (aq (aH (jc (ay fM (by unfold Gl;kernel_rfl) B.isinstance_ bz (aa (sv 0) (aa (iz (by unfold Gl;kernel_rfl) B.bool_ ni) ag))) (lR (eQ (bX hr.units) (sv 0) (sv 1) (aF _)))))) bo)
   (aq (aH (jc (ay fM (by unfold Gl;kernel_rfl) B.isinstance_ bz (aa (sv 0) (aa (iz (by unfold Gl;kernel_rfl) B.int_ ng) ag))) (jc (vS (ay fM (by unfold Gl;kernel_rfl) B.isinstance_ bz (aa (sv 0) (aa (iz (by unfold Gl;kernel_rfl) B.bool_ ni) ag)))) (lR (eQ (bX hr.units) (sv 0) (sv 1) (aF _))))))))))))
theorem oR {f:Addr} {fd:FuncData} (F:Fun K "lots_of" "lots_of" g8 f fd) (B:Bs P w K mg):FnOk P w K mg base CX0 1 f fd ["row"] (spF K 1 dQ):=
 (bG F oG fun cdv A outer s H E hr=>by (conv=>arg 2;whnf);with_reducible exact (aq (aH (g0 (sv 0) (fR (ar hr.units (vR B.T_SHAPES (ar hr.units (sv 0) ai)) ai)) fS))))
theorem iF {f:Addr} {fd:FuncData} (F:Fun K "paths_in" "paths_in" gf f fd) (B:Bs P w K mg) (kf:PySem.W.keepIn K (.ref f)=true) (bf:Binds K fd ["lot","ahead"] []) (mf:mg "paths_in"=some (.ref f)) (d_lots_of:Df P w K mg base "lots_of" 1 ["row"] 1 dQ):∀n,FnOk P w K mg base CX0 (2+n) f fd ["lot","ahead"] (spF K 2 (cj n))
 | 0=>fT
 | n+1=>by
  have d_paths_in:Df P w K mg base "paths_in" (2+n) ["lot","ahead"] 2 (cj n):=⟨f,fd,iF F B kf bf mf d_lots_of n,kf,bf,mf⟩
  exact eG (bG F cx fun cdv A outer s H E hr=>by (conv=>arg 2;whnf);with_reducible exact (ak (sset 2 cx.nd (SFL.ob (bE ag ah)))
   (ak (dR PassesOwn.never rfl (gB (by unfold Gl;kernel_rfl) B.enumerate_ (aa (sv 0) ag) (ab ah)) (cZ rfl (aC (sgn 3 cx.nd) (aC (sgn 4 cx.nd) cw))) (ak (sset 5 cx.nd (aG aJ (sv 1) (aw (aa (sv 3) ag) (ab ah))))
   (ak (du (lS (isT:=cb) en PySem.F.plainAttrs_list PySem.F.slot_list_append PySem.F.type_list_append dP (sv 2) (aa (aw (aa (sv 5) (aa (sv 4) ag)) (ab (ab ah))) ag)))
   (aq (dR PassesOwn.never rfl (gB (by unfold Gl;kernel_rfl) B.enumerate_ (aa (az d_lots_of hr (Nat.le_trans (by decide) (Nat.le_add_right _ _)) (aa (sv 4) ag) (ab ah)) ag) (ab ah)) (cZ rfl (aC (sgn 6 cx.nd) (aC (sgn 7 cx.nd) cw))) (aq (du (lS (isT:=cb) en PySem.F.plainAttrs_list PySem.F.slot_list_extend PySem.F.type_list_extend ic (sv 2) (aa (az d_paths_in hr (Nat.le_refl _) (aa (sv 7) (aa (aG aJ (sv 5) (aw (aa (sv 6) ag) (ab ah))) ag)) (ab (ab ah))) ag)))))))))
   (aq (aH (sv 2))))))
theorem mr {f:Addr} {fd:FuncData} (F:Fun K "places_of" "places_of" fw f fd) (B:Bs P w K mg) (d_paths_in:Df P w K mg base "paths_in" 12 ["lot","ahead"] 2 (cj 10)):FnOk P w K mg base CX0 13 f fd ["program"] (spF K 1 cT):=
 eG (bG F cE fun cdv A outer s H E hr=>by (conv=>arg 2;whnf);with_reducible exact (ak (sset 1 cE.nd (SFL.ob (bE ag ah)))
   (ak (dR PassesOwn.never rfl (gB (by unfold Gl;kernel_rfl) B.enumerate_ (aa (ar hr.units (sv 0) ai) ag) (ab ah)) (cZ rfl (aC (sgn 2 cE.nd) (aC (cZ rfl (aC (sgn 3 cE.nd) (aC (sgn 4 cE.nd) (aC (sgn 5 cE.nd) cw)))) cw))) (aq (du (lS (isT:=cb) en PySem.F.plainAttrs_list PySem.F.slot_list_extend PySem.F.type_list_extend ic (sv 1) (aa (eP (N':=["path","row","deed"]) (caps:=[none,none,some 2]) (bD (by kernel_rfl)) rfl (er (az d_paths_in hr (by decide) (aa (sv 5) (aa (aw ag ah) ag)) (ab (ab ah)))) (fun _ _ _ _ _=>(cZ rfl (aC (sgn 0 (by show (["path","row","deed"]:List Str).Nodup;decide+kernel)) (aC (sgn 1 (by show (["path","row","deed"]:List Str).Nodup;decide+kernel)) cw)))) (fun _ _ _ _ _=>dw) (fun _ _ _ _ _=>(aw (aa (sv 2) (aa (sv 0) (aa (sv 1) ag))) (ab (ab (ab ah)))))) ag)))))
   (aq (aH (sv 1))))))
theorem oQ {f:Addr} {fd:FuncData} (F:Fun K "rows_of" "rows_of" g7 f fd) (B:Bs P w K mg) (d_places_of:Df P w K mg base "places_of" 13 ["program"] 1 cT):FnOk P w K mg base CX0 14 f fd ["program"] (spF K 1 dq):=
 (bG F oF fun cdv A outer s H E hr=>by (conv=>arg 2;whnf);with_reducible exact (aq (aH (bV cM (by unfold Gl;kernel_rfl) B.tuple_ cn (aa (eP (N':=["deed","path","row"]) (caps:=[none,none,none]) (bD (by kernel_rfl)) rfl (er (az d_places_of hr (by decide) (aa (sv 0) ag) (ab ah))) (fun _ _ _ _ _=>(cZ rfl (aC (sgn 0 (by show (["deed","path","row"]:List Str).Nodup;decide+kernel)) (aC (sgn 1 (by show (["deed","path","row"]:List Str).Nodup;decide+kernel)) (aC (sgn 2 (by show (["deed","path","row"]:List Str).Nodup;decide+kernel)) cw))))) (fun _ _ _ _ _=>dw) (fun _ _ _ _ _=>(aw (aa (sv 0) (aa (sv 2) ag)) (ab (ab ah))))) ag)))))
theorem xl {f:Addr} {fd:FuncData} (F:Fun K "law" "law" iA f fd) (B:Bs P w K mg) (d__law_drawn:Df P w K mg base "_law_drawn" 1 ["_law_script"] 1 cF) (d__law_program:Df P w K mg base "_law_program" 27 ["_law_state","_law_most","_law_odd"] 3 cB) (d__law_of:Df P w K mg base "_law_of" 3 ["_law_state","_law_some"] 2 aA) (d__law_lots:Df P w K mg base "_law_lots" 1 ["_law_row_here"] 1 cC) (d__law_same:Df P w K mg base "_law_same" 21 ["_law_one","_law_two"] 2 (bA 20)) (d_rows_of:Df P w K mg base "rows_of" 14 ["program"] 1 dq):FnOk P w K mg base CX0 28 f fd ["_law_script"] (spF K 1 qc):=
 (bG F dG fun cdv A outer s H E hr=>by (conv=>arg 2;whnf);with_reducible exact (ak (sset 1 dG.nd (az d__law_drawn hr (by decide) (aa (sv 0) ag) (ab ah)))
   (ak (dR PassesOwn.never rfl (cS (by unfold Gl;kernel_rfl) B.range_ (aa ai ag) (hl:=(ab ah))) (sgn 2 dG.nd) (ak (sset 3 dG.nd (az d__law_program hr (by decide) (aa (sv 1) (aa (az d__law_of hr (by decide) (aa (sv 1) (aa (cN 9 (by kernel_rfl)) ag)) (ab (ab ah))) (aa (az d__law_of hr (by decide) (aa (sv 1) (aa (cN 9 (by kernel_rfl)) ag)) (ab (ab ah))) ag))) (ab (ab (ab ah)))))
   (ak (sset 4 dG.nd (SFL.ob (bE ag ah)))
   (ak (dR PassesOwn.never rfl (gB (by unfold Gl;kernel_rfl) B.enumerate_ (aa (ar hr.units (sv 3) ai) ag) (ab ah)) (cZ rfl (aC (sgn 5 dG.nd) (aC (cZ rfl (aC (sgn 6 dG.nd) (aC (sgn 7 dG.nd) (aC (sgn 8 dG.nd) cw)))) cw))) (ak (sset 9 dG.nd (SFL.ob (lP (by unfold Gl;kernel_rfl) B.list_ iY (aa (lQ (sv 8) (iy fo ai)) ag) (ab ah))))
   (aq (rE (n:=1000) PassesOwn.never (aP (ju hr.units) (sv 9) (SFL.lv (bE ag ah)) (aF _)) (ak (sset 10 dG.nd (yt (isT:=cb) en PySem.F.plainAttrs_list PySem.F.slot_list_pop PySem.F.type_list_pop xo (sv 9)))
   (ak (du (lS (isT:=cb) en PySem.F.plainAttrs_list PySem.F.slot_list_append PySem.F.type_list_append dP (sv 4) (aa (aw (aa (sv 5) (aa (sv 10) ag)) (ab (ab ah))) ag)))
   (aq (dR PassesOwn.never rfl (er (lQ (az d__law_lots hr (by decide) (aa (sv 10) ag) (ab ah)) (iy fo ai))) (sgn 11 dG.nd) (aq (du (lS (isT:=cb) en PySem.F.plainAttrs_list PySem.F.slot_list_extend PySem.F.type_list_extend ic (sv 9) (aa (SFL.lv (lP (by unfold Gl;kernel_rfl) B.list_ iY (aa (lQ (sv 11) (iy fo ai)) ag) (ab ah))) ag))))))))))))
   (aq (bS (oD (ft (az d__law_same hr (by decide) (aa (az d_rows_of hr (by decide) (aa (sv 3) ag) (ab ah)) (aa (bV cM (by unfold Gl;kernel_rfl) B.tuple_ cn (aa (sv 4) ag)) ag)) (ab (ab ah))))) (aq (aH rP)) bo))))))
   (aq (aH (az d__law_same hr (by decide) (aa (az d_rows_of hr (by decide) (aa (aw (aa (aw (aa ao ag) (ab ah)) (aa (aw (aa (aw (aa ao (aa (aw ag ah) (aa (aw ag ah) ag))) (ab (ab (ab ah)))) ag) (ab ah)) ag)) (ab (ab ah))) ag) (ab ah)) (aa (aw ag ah) ag)) (ab (ab ah))))))))
end
abbrev pw:Program:=PySem.Challenge.pw_neverstuck_k04_rows_numbered
def view:Program:={pw with main:={pw.main with body:=[top 1,top 2,top 3,top 4,top 5,top 7,top 8,top 9,top 10,top 11,top 12,top 13,top 14,top 15,top 16,top 17,top 18,top 19,top 20,top 21,top 22,top 23,top 24]}}
theorem dX:Hd.freeOk view (["SHAPES"]:List Str) ["abs","all","bool","enumerate","int","isinstance","len","list","max","min","range","sorted","str","tuple","zip"]=true:=by decide+kernel
theorem jl:(recsOf view).find? (fun e=>e.name==("_law_drawn":Str))=some (Hd.b0 "_law_drawn" eT):=by kernel_rfl
theorem j4:(recsOf view).find? (fun e=>e.name==("_law_load":Str))=some (Hd.b0 "_law_load" fC):=by kernel_rfl
theorem jZ:(recsOf view).find? (fun e=>e.name==("_law_next":Str))=some (Hd.b0 "_law_next" fz):=by kernel_rfl
theorem nJ:(recsOf view).find? (fun e=>e.name==("_law_of":Str))=some (Hd.b0 "_law_of" g9):=by kernel_rfl
theorem jk:(recsOf view).find? (fun e=>e.name==("_law_words":Str))=some (Hd.b0 "_law_words" eS):=by kernel_rfl
theorem jj:(recsOf view).find? (fun e=>e.name==("_law_world":Str))=some (Hd.b0 "_law_world" eR):=by kernel_rfl
theorem iL:(recsOf view).find? (fun e=>e.name==("_law_is_odd":Str))=some (Hd.b0 "_law_is_odd" eu):=by kernel_rfl
theorem jX:(recsOf view).find? (fun e=>e.name==("_law_term":Str))=some (Hd.b0 "_law_term" fx):=by kernel_rfl
theorem j5:(recsOf view).find? (fun e=>e.name==("_law_call":Str))=some (Hd.b0 "_law_call" fD):=by kernel_rfl
theorem j3:(recsOf view).find? (fun e=>e.name==("_law_lock":Str))=some (Hd.b0 "_law_lock" fB):=by kernel_rfl
theorem lZ:(recsOf view).find? (fun e=>e.name==("_law_lot":Str))=some (Hd.b0 "_law_lot" gh):=by kernel_rfl
theorem lY:(recsOf view).find? (fun e=>e.name==("_law_row":Str))=some (Hd.b0 "_law_row" gg):=by kernel_rfl
theorem iK:(recsOf view).find? (fun e=>e.name==("_law_locked":Str))=some (Hd.b0 "_law_locked" et):=by kernel_rfl
theorem gE:(recsOf view).find? (fun e=>e.name==("_law_two_ways":Str))=some (Hd.b0 "_law_two_ways" dH):=by kernel_rfl
theorem hV:(recsOf view).find? (fun e=>e.name==("_law_program":Str))=some (Hd.b0 "_law_program" dS):=by kernel_rfl
theorem j2:(recsOf view).find? (fun e=>e.name==("_law_lots":Str))=some (Hd.b0 "_law_lots" fA):=by kernel_rfl
theorem jY:(recsOf view).find? (fun e=>e.name==("_law_same":Str))=some (Hd.b0 "_law_same" fy):=by kernel_rfl
theorem nI:(recsOf view).find? (fun e=>e.name==("lots_of":Str))=some (Hd.b0 "lots_of" g8):=by kernel_rfl
theorem lX:(recsOf view).find? (fun e=>e.name==("paths_in":Str))=some (Hd.b0 "paths_in" gf):=by kernel_rfl
theorem jW:(recsOf view).find? (fun e=>e.name==("places_of":Str))=some (Hd.b0 "places_of" fw):=by kernel_rfl
theorem nG:(recsOf view).find? (fun e=>e.name==("rows_of":Str))=some (Hd.b0 "rows_of" g7):=by kernel_rfl
theorem uw:(recsOf view).find? (fun e=>e.name==("law":Str))=some (Hd.b0 "law" iA):=by kernel_rfl
theorem all_mk {l:PySem.W.OpenLaw} {w:World} {h:Heap} {mg mb:Str→Option Value} {mean:ExcName→Option Value} (T:Top view (PySem.W.looseW view (["SHAPES"]:List Str)) mean mg mb h)
  (Y_SHAPES:Hd.tabAt h "SHAPES"=some (fO.map fun x=>(x.1,hashStr w x.1,x.2)))
  (hF:∀ns:List Int,ns.length≤63→∃h',qc [.ro (ns.map D.int)] []=some (.bl true,h')):
  ∃(fa:Addr) (fd:FuncData),mg "law"=some (.ref fa)∧(∀(s:Shared) (v:Value),BindsTo s fd ⟨[v],[]⟩ [("_law_script",v)])∧∀base:Heap,(Hd.cq h).In base→base.Ns mainGlobals mg→FnOk l.prog w (Hd.cq h) mg base CX0 28 fa fd ["_law_script"] (spT (Hd.cq h)):=by
 have B:Bs l.prog w (Hd.cq h) mg:=⟨Hd.cf T dX (List.Mem.head _),Hd.cf T dX (List.Mem.tail _ (List.Mem.head _)),Hd.cf T dX (List.Mem.tail _ (List.Mem.tail _ (List.Mem.head _))),Hd.cf T dX (List.Mem.tail _ (List.Mem.tail _ (List.Mem.tail _ (List.Mem.head _)))),Hd.cf T dX (List.Mem.tail _ (List.Mem.tail _ (List.Mem.tail _ (List.Mem.tail _ (List.Mem.head _))))),Hd.cf T dX (List.Mem.tail _ (List.Mem.tail _ (List.Mem.tail _ (List.Mem.tail _ (List.Mem.tail _ (List.Mem.head _)))))),Hd.cf T dX (List.Mem.tail _ (List.Mem.tail _ (List.Mem.tail _ (List.Mem.tail _ (List.Mem.tail _ (List.Mem.tail _ (List.Mem.head _))))))),Hd.cf T dX (List.Mem.tail _ (List.Mem.tail _ (List.Mem.tail _ (List.Mem.tail _ (List.Mem.tail _ (List.Mem.tail _ (List.Mem.tail _ (List.Mem.head _)))))))),Hd.cf T dX (List.Mem.tail _ (List.Mem.tail _ (List.Mem.tail _ (List.Mem.tail _ (List.Mem.tail _ (List.Mem.tail _ (List.Mem.tail _ (List.Mem.tail _ (List.Mem.head _))))))))),Hd.cf T dX (List.Mem.tail _ (List.Mem.tail _ (List.Mem.tail _ (List.Mem.tail _ (List.Mem.tail _ (List.Mem.tail _ (List.Mem.tail _ (List.Mem.tail _ (List.Mem.tail _ (List.Mem.head _)))))))))),Hd.cf T dX (List.Mem.tail _ (List.Mem.tail _ (List.Mem.tail _ (List.Mem.tail _ (List.Mem.tail _ (List.Mem.tail _ (List.Mem.tail _ (List.Mem.tail _ (List.Mem.tail _ (List.Mem.tail _ (List.Mem.head _))))))))))),Hd.cf T dX (List.Mem.tail _ (List.Mem.tail _ (List.Mem.tail _ (List.Mem.tail _ (List.Mem.tail _ (List.Mem.tail _ (List.Mem.tail _ (List.Mem.tail _ (List.Mem.tail _ (List.Mem.tail _ (List.Mem.tail _ (List.Mem.head _)))))))))))),Hd.cf T dX (List.Mem.tail _ (List.Mem.tail _ (List.Mem.tail _ (List.Mem.tail _ (List.Mem.tail _ (List.Mem.tail _ (List.Mem.tail _ (List.Mem.tail _ (List.Mem.tail _ (List.Mem.tail _ (List.Mem.tail _ (List.Mem.tail _ (List.Mem.head _))))))))))))),Hd.cf T dX (List.Mem.tail _ (List.Mem.tail _ (List.Mem.tail _ (List.Mem.tail _ (List.Mem.tail _ (List.Mem.tail _ (List.Mem.tail _ (List.Mem.tail _ (List.Mem.tail _ (List.Mem.tail _ (List.Mem.tail _ (List.Mem.tail _ (List.Mem.tail _ (List.Mem.head _)))))))))))))),Hd.cf T dX (List.Mem.tail _ (List.Mem.tail _ (List.Mem.tail _ (List.Mem.tail _ (List.Mem.tail _ (List.Mem.tail _ (List.Mem.tail _ (List.Mem.tail _ (List.Mem.tail _ (List.Mem.tail _ (List.Mem.tail _ (List.Mem.tail _ (List.Mem.tail _ (List.Mem.tail _ (List.Mem.head _))))))))))))))),Hd.tab_of Y_SHAPES T.g (by decide+kernel)⟩
 obtain ⟨f1,fd1,m1,F1⟩:=Hd.cG T jl
 have k1:=F1.kp
 have b1:=F1.binds (ps:=["_law_script"]) fun _ _ _ _ _ _ us hl=>match us,hl with | [_],_=>rfl
 obtain ⟨f2,fd2,m2,F2⟩:=Hd.cG T j4
 have k2:=F2.kp
 have b2:=F2.binds (ps:=["_law_state"]) fun _ _ _ _ _ _ us hl=>match us,hl with | [_],_=>rfl
 obtain ⟨f3,fd3,m3,F3⟩:=Hd.cG T jZ
 have k3:=F3.kp
 have b3:=F3.binds (ps:=["_law_state","_law_many"]) fun _ _ _ _ _ _ us hl=>match us,hl with | [_,_],_=>rfl
 obtain ⟨f4,fd4,m4,F4⟩:=Hd.cG T nJ
 have k4:=F4.kp
 have b4:=F4.binds (ps:=["_law_state","_law_some"]) fun _ _ _ _ _ _ us hl=>match us,hl with | [_,_],_=>rfl
 obtain ⟨f5,fd5,m5,F5⟩:=Hd.cG T jk
 have k5:=F5.kp
 have b5:=F5.binds (ps:=["_law_state","_law_many"]) fun _ _ _ _ _ _ us hl=>match us,hl with | [_,_],_=>rfl
 obtain ⟨f6,fd6,m6,F6⟩:=Hd.cG T jj
 have k6:=F6.kp
 have b6:=F6.binds (ps:=["_law_state","_law_most","_law_odd"]) fun _ _ _ _ _ _ us hl=>match us,hl with | [_,_,_],_=>rfl
 obtain ⟨f7,fd7,m7,F7⟩:=Hd.cG T iL
 have k7:=F7.kp
 have b7:=F7.binds (ps:=["_law_state","_law_world_here"]) fun _ _ _ _ _ _ us hl=>match us,hl with | [_,_],_=>rfl
 obtain ⟨f8,fd8,m8,F8⟩:=Hd.cG T jX
 have k8:=F8.kp
 have b8:=F8.binds (ps:=["_law_state","_law_params"]) fun _ _ _ _ _ _ us hl=>match us,hl with | [_,_],_=>rfl
 obtain ⟨f9,fd9,m9,F9⟩:=Hd.cG T j5
 have k9:=F9.kp
 have b9:=F9.binds (ps:=["_law_state","_law_world_here","_law_deed","_law_top"]) fun _ _ _ _ _ _ us hl=>match us,hl with | [_,_,_,_],_=>rfl
 obtain ⟨f10,fd10,m10,F10⟩:=Hd.cG T j3
 have k10:=F10.kp
 have b10:=F10.binds (ps:=["_law_state","_law_world_here","_law_deed","_law_top","_law_held"]) fun _ _ _ _ _ _ us hl=>match us,hl with | [_,_,_,_,_],_=>rfl
 obtain ⟨f11,fd11,m11,F11⟩:=Hd.cG T lZ
 have k11:=F11.kp
 have b11:=F11.binds (ps:=["_law_state","_law_world_here","_law_deed","_law_deep","_law_top","_law_held","_law_most"]) fun _ _ _ _ _ _ us hl=>match us,hl with | [_,_,_,_,_,_,_],_=>rfl
 obtain ⟨f12,fd12,m12,F12⟩:=Hd.cG T lY
 have k12:=F12.kp
 have b12:=F12.binds (ps:=["_law_state","_law_world_here","_law_deed","_law_deep","_law_top","_law_held"]) fun _ _ _ _ _ _ us hl=>match us,hl with | [_,_,_,_,_,_],_=>rfl
 obtain ⟨f13,fd13,m13,F13⟩:=Hd.cG T iK
 have k13:=F13.kp
 have b13:=F13.binds (ps:=["_law_state","_law_world_here","_law_deed","_law_deep","_law_top","_law_held","_law_way"]) fun _ _ _ _ _ _ us hl=>match us,hl with | [_,_,_,_,_,_,_],_=>rfl
 obtain ⟨f14,fd14,m14,F14⟩:=Hd.cG T gE
 have k14:=F14.kp
 have b14:=F14.binds (ps:=["_law_state","_law_world_here","_law_deed","_law_deep","_law_top","_law_held"]) fun _ _ _ _ _ _ us hl=>match us,hl with | [_,_,_,_,_,_],_=>rfl
 obtain ⟨f15,fd15,m15,F15⟩:=Hd.cG T hV
 have k15:=F15.kp
 have b15:=F15.binds (ps:=["_law_state","_law_most","_law_odd"]) fun _ _ _ _ _ _ us hl=>match us,hl with | [_,_,_],_=>rfl
 obtain ⟨f16,fd16,m16,F16⟩:=Hd.cG T j2
 have k16:=F16.kp
 have b16:=F16.binds (ps:=["_law_row_here"]) fun _ _ _ _ _ _ us hl=>match us,hl with | [_],_=>rfl
 obtain ⟨f17,fd17,m17,F17⟩:=Hd.cG T jY
 have k17:=F17.kp
 have b17:=F17.binds (ps:=["_law_one","_law_two"]) fun _ _ _ _ _ _ us hl=>match us,hl with | [_,_],_=>rfl
 obtain ⟨f18,fd18,m18,F18⟩:=Hd.cG T nI
 have k18:=F18.kp
 have b18:=F18.binds (ps:=["row"]) fun _ _ _ _ _ _ us hl=>match us,hl with | [_],_=>rfl
 obtain ⟨f19,fd19,m19,F19⟩:=Hd.cG T lX
 have k19:=F19.kp
 have b19:=F19.binds (ps:=["lot","ahead"]) fun _ _ _ _ _ _ us hl=>match us,hl with | [_,_],_=>rfl
 obtain ⟨f20,fd20,m20,F20⟩:=Hd.cG T jW
 have k20:=F20.kp
 have b20:=F20.binds (ps:=["program"]) fun _ _ _ _ _ _ us hl=>match us,hl with | [_],_=>rfl
 obtain ⟨f21,fd21,m21,F21⟩:=Hd.cG T nG
 have k21:=F21.kp
 have b21:=F21.binds (ps:=["program"]) fun _ _ _ _ _ _ us hl=>match us,hl with | [_],_=>rfl
 obtain ⟨f22,fd22,m22,F22⟩:=Hd.cG T uw
 have k22:=F22.kp
 refine ⟨f22,fd22,m22,F22.one fun _ _ _ _ _ _ _=>rfl,fun base _ _=>?_⟩
 have d__law_drawn:Df l.prog w (Hd.cq h) mg base "_law_drawn" 1 ["_law_script"] 1 cF:=⟨f1,_,j9 F1 B,k1,b1,m1⟩
 have d__law_load:Df l.prog w (Hd.cq h) mg base "_law_load" 1 ["_law_state"] 1 dD:=⟨f2,_,mC F2 B,k2,b2,m2⟩
 have d__law_next:Df l.prog w (Hd.cq h) mg base "_law_next" 2 ["_law_state","_law_many"] 2 av:=⟨f3,_,mx F3 B d__law_load,k3,b3,m3⟩
 have d__law_of:Df l.prog w (Hd.cq h) mg base "_law_of" 3 ["_law_state","_law_some"] 2 aA:=⟨f4,_,oS F4 B d__law_next,k4,b4,m4⟩
 have d__law_words:Df l.prog w (Hd.cq h) mg base "_law_words" 4 ["_law_state","_law_many"] 2 ck:=⟨f5,_,j8 F5 B d__law_of d__law_next,k5,b5,m5⟩
 have d__law_world:Df l.prog w (Hd.cq h) mg base "_law_world" 5 ["_law_state","_law_most","_law_odd"] 3 dc:=⟨f6,_,j7 F6 B d__law_words d__law_of d__law_next,k6,b6,m6⟩
 have d__law_is_odd:Df l.prog w (Hd.cq h) mg base "_law_is_odd" 3 ["_law_state","_law_world_here"] 2 bB:=⟨f7,_,jv F7 B d__law_next,k7,b7,m7⟩
 have d__law_term:Df l.prog w (Hd.cq h) mg base "_law_term" 4 ["_law_state","_law_params"] 2 ba:=⟨f8,_,mw F8 B d__law_next d__law_of,k8,b8,m8⟩
 have d__law_call:Df l.prog w (Hd.cq h) mg base "_law_call" 5 ["_law_state","_law_world_here","_law_deed","_law_top"] 4 dE:=⟨f9,_,mD F9 B d__law_is_odd d__law_of d__law_term,k9,b9,m9⟩
 have d__law_lock:Df l.prog w (Hd.cq h) mg base "_law_lock" 5 ["_law_state","_law_world_here","_law_deed","_law_top","_law_held"] 5 cU:=⟨f10,_,mB F10 B d__law_next d__law_is_odd d__law_term,k10,b10,m10⟩
 have okr:=pS (P:=l.prog) (w:=w) (base:=base) F11 k11 b11 m11 F12 k12 b12 m12 F13 k13 b13 m13 F14 k14 b14 m14 B d__law_next d__law_of d__law_call d__law_term d__law_lock 20
 have d__law_lot:Df l.prog w (Hd.cq h) mg base "_law_lot" 26 ["_law_state","_law_world_here","_law_deed","_law_deep","_law_top","_law_held","_law_most"] 7 (aZ 20):=⟨f11,_,okr.1,k11,b11,m11⟩
 have d__law_row:Df l.prog w (Hd.cq h) mg base "_law_row" 26 ["_law_state","_law_world_here","_law_deed","_law_deep","_law_top","_law_held"] 6 (dr 20):=⟨f12,_,okr.2.1,k12,b12,m12⟩
 have d__law_locked:Df l.prog w (Hd.cq h) mg base "_law_locked" 26 ["_law_state","_law_world_here","_law_deed","_law_deep","_law_top","_law_held","_law_way"] 7 (cp 20):=⟨f13,_,okr.2.2.1,k13,b13,m13⟩
 have d__law_two_ways:Df l.prog w (Hd.cq h) mg base "_law_two_ways" 26 ["_law_state","_law_world_here","_law_deed","_law_deep","_law_top","_law_held"] 6 (bJ 20):=⟨f14,_,okr.2.2.2,k14,b14,m14⟩
 have d__law_program:Df l.prog w (Hd.cq h) mg base "_law_program" 27 ["_law_state","_law_most","_law_odd"] 3 cB:=⟨f15,_,iM F15 B d__law_world d__law_lot d__law_of,k15,b15,m15⟩
 have d__law_lots:Df l.prog w (Hd.cq h) mg base "_law_lots" 1 ["_law_row_here"] 1 cC:=⟨f16,_,my F16 B,k16,b16,m16⟩
 have d__law_same:Df l.prog w (Hd.cq h) mg base "_law_same" 21 ["_law_one","_law_two"] 2 (bA 20):=⟨f17,_,gH F17 B k17 b17 m17  20,k17,b17,m17⟩
 have d_lots_of:Df l.prog w (Hd.cq h) mg base "lots_of" 1 ["row"] 1 dQ:=⟨f18,_,oR F18 B,k18,b18,m18⟩
 have d_paths_in:Df l.prog w (Hd.cq h) mg base "paths_in" 12 ["lot","ahead"] 2 (cj 10):=⟨f19,_,iF F19 B k19 b19 m19 d_lots_of 10,k19,b19,m19⟩
 have d_places_of:Df l.prog w (Hd.cq h) mg base "places_of" 13 ["program"] 1 cT:=⟨f20,_,mr F20 B d_paths_in,k20,b20,m20⟩
 have d_rows_of:Df l.prog w (Hd.cq h) mg base "rows_of" 14 ["program"] 1 dq:=⟨f21,_,oQ F21 B d_places_of,k21,b21,m21⟩
 exact uZ (xl F22 B d__law_drawn d__law_program d__law_of d__law_lots d__law_same d_rows_of) hF
end Mi
local macro_rules | `(tactic| walk_at "one") => `(tactic| with_reducible first
 | refine Sm.nK ?_ | refine Sm.zh ?_ | refine Sm.yA ?_ | refine Sm.yJ ?_ | refine Sm.wq ?_ | refine Sm.yB ?_ | refine Sm.vw ?_ | refine Sm.we ?_ | refine Sm.yE ?_ | refine Sm.wg ?_ | refine Sm.ux ?_
 | refine Sm.wj ?_ | refine Sm.zw ?_ | refine Sm.r_k ?_ | refine Sm.zE ?_ | refine Sm.wt ?_ | refine Sm.yG ?_ | refine Sm.zB ?_ | refine Sm.zA ?_ | refine Sm.zz ?_ | refine Sm.zF ?_ | refine Sm.zG ?_
 | refine Sm.wx ?_ | refine Sm.wa ?_ | refine Sm.wb ?_ | refine Sm.wc ?_ | refine Sm.yz ?_ | refine Sm.yK ?_ | refine Sm.zy ?_ | refine Sm.yF ?_
 | refine Sm.zx ?_ | refine Sm.yC ?_ | refine Sm.yD ?_ | refine Sm.zD ?_ | refine Sm.wm ?_ | refine Sm.se ?_ | refine Sm.uy ?_ | refine Sm.yI ?_ | refine Sm.wu ?_
 | refine Sm.zT ?_ | refine Sm.zU ?_ | refine Sm.zg ?_ | refine Sm.zj ?_ | refine Sm.zi ?_ | refine Sm.zZ ?_ | refine Sm.z6 ?_ | refine Sm.z7 ?_ | refine Sm.zY ?_)
local macro_rules | `(tactic| walk_at "go") => `(tactic| (repeat (first | walk_at "one" | with_reducible refine Sm.r8 ?_ | with_reducible refine Sm.vy ?_)); (try dsimp only))
local macro_rules | `(tactic| walk_at "run") => `(tactic| (repeat (first | walk_at "one" | with_reducible refine Sm.r8 ?_ | with_reducible refine Sm.vy ?_ | with_reducible refine Sm.x4 ?_ | with_reducible refine Sm.x5 ?_ | with_reducible refine Sm.w_add ?_ | with_reducible refine Sm.w_sub ?_ | with_reducible refine Sm.w_lt ?_ | with_reducible refine Sm.zd ?_ | with_reducible refine Sm.ze ?_ | with_reducible refine Sm.zf ?_ | with_reducible refine Sm.ye ?_ | with_reducible refine Sm.x8 ?_ | with_reducible refine Sm.yd ?_ | with_reducible refine Sm.x6 ?_ | with_reducible refine Sm.yc ?_ | with_reducible refine Sm.yb ?_ | with_reducible refine Sm.x9 ?_ | with_reducible refine Sm.vB ?_ | with_reducible refine Sm.vC ?_ | with_reducible refine Sm.oK ?_)); (try dsimp only))
namespace Mi
open PySem Sm
theorem gk {a b:Int} {h:MH} {Q:D×MH→Prop} (hb:0 < b) (q:Q (.int (a % b),h)):Rn (jC (.int a) (.int b) h) Q:=⟨_,by unfold jC;dsimp only;rw [if_pos hb],q⟩
theorem vW {a b:Int} {h:MH} {Q:D×MH→Prop} (hb:0 < b) (hb2:b≤10^40) (q:Q (.int (a / b),h)):Rn (sY (.int a) (.int b) h) Q:=⟨_,by unfold sY;dsimp only;rw [if_pos ⟨hb,hb2⟩],q⟩
theorem hG {a b:Int} {h:MH} {Q:D×MH→Prop} (hb:gI a b=true) (q:Q (.int (a*b),h)):Rn (fK (.int a) (.int b) h) Q:=⟨_,by show (if gI a b then _ else _)=_;rw [if_pos hb],q⟩
theorem mul_r {a b:Int} (h1:-(2^64) < b) (h2:b < 2^64):gI a b=true:=by unfold gI;simp only [Bool.or_eq_true,Bool.and_eq_true,decide_eq_true_eq];exact .inr ⟨h1,h2⟩
theorem sL {a b:Int} (h1:-(2^64) < a) (h2:a < 2^64):gI a b=true:=by unfold gI;simp only [Bool.or_eq_true,Bool.and_eq_true,decide_eq_true_eq];exact .inl ⟨h1,h2⟩
theorem qE {h:MH} {s c:Nat} {cs:List Int} {n t:Int} (hs:h[s]?=some (.lst [.int n,.ob c,.int t])) (hc:h[c]?=some (.lst (cs.map D.int))) (ne:c≠s) (t0:0≤t) (tB:t < 2^60):
  Rn (dD [.ob s] h) fun p=>∃n',0≤n'∧p=(.non,h.set s (.lst [.int n',.ob c,.int (t+1)])):=by
 have hl:s < h.length:=(List.getElem?_eq_some_iff.mp hs).1
 generalize hH:h.set s (.lst [.int n,.ob c,.int (t+1)])=H
 have Hs:H[s]?=some (.lst [.int n,.ob c,.int (t+1)]):=by rw [←hH];exact List.getElem?_set_self hl
 have Hc:H[c]?=some (.lst (cs.map D.int)):=by rw [←hH,List.getElem?_set_ne (Ne.symm ne)];exact hc
 have set0:∀v:Int,kg (.ob s) (.int 0) (.int v) H=some (h.set s (.lst [.int v,.ob c,.int (t+1)])):=fun v=>by
  rw [mI (p:=0) Hs rfl,←hH,List.set_set];rfl
 have e3:kg (.ob s) (.int 2) (.int (t+1)) h=some H:=by rw [mI (p:=2) hs rfl,←hH];rfl
 have e4:dB [.ob c] H=some (.int cs.length,H):=by rw [p0 Hc,List.length_map]
 refine dA ?_
 walk_at "go"
 refine rv (fL hs rfl) ?_
 walk_at "go"
 refine rv (fL hs rfl) ?_
 walk_at "go"
 refine rv rfl ?_
 walk_at "go"
 refine rv e3 ?_
 walk_at "go"
 refine rv (qO Hc) ⟨_,rfl,fun hne=>?pos,fun hne=>?neg⟩
 case' pos=>
  have hpos:0 < cs.length:=by cases cs with | nil=>simp at hne | cons _ _=>simp
  walk_at "go"
  refine rv e4 (gk (by omega) ?_)
  obtain ⟨z,hz⟩:=t4 cs (t % (cs.length:Int)) (Int.emod_nonneg _ (by omega)) (Int.emod_lt_of_pos _ (by omega))
  refine rv (fL Hc hz) ?_
 all_goals
  walk_at "go"
  refine rv e4 (rv rfl ⟨_,rfl,?_⟩)
  refine (fun mix=>⟨fun c1=>?thenA,fun _=>⟨fun z=>(nomatch z),fun _=>mix⟩⟩) ?thenB
  case thenA=>
   walk_at "go"
   refine rv rfl ?_
   walk_at "go"
   refine rv rfl (rv rfl ⟨_,rfl,fun c2=>?_,fun _=>mix⟩)
   walk_at "go"
   refine rv rfl ?_
   walk_at "go"
   refine rv (set0 _) ?_
   walk_at "go"
   exact ⟨_,by split <;> omega,rfl⟩
  case thenB=>
   walk_at "go"
   refine gk (by decide) ?_
   walk_at "go"
   refine hG (sL (by decide) (by decide)) ?_
   walk_at "go"
   refine hG (mul_r (by omega) (by omega)) (rv rfl ?_)
   walk_at "go"
   refine rv rfl ?_
   walk_at "go"
   refine hG (mul_r (by decide) (by decide)) ?_
   walk_at "go"
   refine gk (by decide) ?_
   walk_at "go"
   refine hG (sL (Int.lt_of_lt_of_le (by decide) (Int.emod_nonneg _ (by decide))) (Int.lt_trans (Int.emod_lt_of_pos _ (by decide)) (by decide))) ?_
   walk_at "go"
   refine gk (by decide) ?_
   walk_at "go"
   refine hG (mul_r (by decide) (by decide)) ?_
   walk_at "go"
   refine rv rfl ?_
   walk_at "go"
   refine rv rfl ?_
   walk_at "go"
   refine gk (by decide) ?_
   walk_at "go"
   refine rv rfl (rv rfl ?_)
   walk_at "go"
   refine rv (set0 _) ?_
   walk_at "go"
   exact ⟨_,Int.add_nonneg (Int.emod_nonneg _ (by decide)) (by decide),rfl⟩
end Mi
namespace Mi
open PySem Sm
structure St (s c:Nat) (cs:List Int) (B:Nat) (h:MH):Prop where
 st:∃n t:Int,h[s]?=some (.lst [.int n,.ob c,.int t])∧0≤n∧0≤t∧t≤B
 ce:h[c]?=some (.lst (cs.map D.int))
 ne:c≠s
def But (s:Nat) (h h':MH):Prop:=h'.length=h.length∧∀k,k≠s→h'[k]?=h[k]?
theorem But.refl (s:Nat) (h:MH):But s h h:=⟨rfl,fun _ _=>rfl⟩
theorem But.trans {s:Nat} {h h1 h2:MH} (a:But s h h1) (b:But s h1 h2):But s h h2:=⟨b.1.trans a.1,fun k n=>(b.2 k n).trans (a.2 k n)⟩
theorem But.set {s:Nat} {h:MH} {o:MO}:But s h (h.set s o):=⟨List.length_set,fun k n=>List.getElem?_set_ne (Ne.symm n)⟩
theorem St.up {s c:Nat} {cs:List Int} {B B':Nat} {h:MH} (S:St s c cs B h) (hB:B≤B'):St s c cs B' h:=by
 obtain ⟨n,t,e,a,b,d⟩:=S.st
 exact ⟨⟨n,t,e,a,b,by omega⟩,S.ce,S.ne⟩
theorem St.set {s c:Nat} {cs:List Int} {B B':Nat} {h:MH} {n t:Int} (S:St s c cs B h) (h1:0≤n) (h2:0≤t) (h3:t≤B'):St s c cs B' (h.set s (.lst [.int n,.ob c,.int t])):=by
 obtain ⟨n0,t0,e,_⟩:=S.st
 exact ⟨⟨n,t,List.getElem?_set_self (List.getElem?_eq_some_iff.mp e).1,h1,h2,h3⟩,by rw [List.getElem?_set_ne (Ne.symm S.ne)];exact S.ce,S.ne⟩
theorem St.more {s c:Nat} {cs:List Int} {B:Nat} {h:MH} (S:St s c cs B h) (g:MH):St s c cs B (h++g):=by
 obtain ⟨n,t,e,r⟩:=S.st
 exact ⟨⟨n,t,by rw [List.getElem?_append_left (List.getElem?_eq_some_iff.mp e).1];exact e,r⟩,by rw [List.getElem?_append_left (List.getElem?_eq_some_iff.mp S.ce).1];exact S.ce,S.ne⟩
theorem St.lt {s c:Nat} {cs:List Int} {B:Nat} {h:MH} (S:St s c cs B h):s < h.length∧c < h.length:=by
 obtain ⟨n,t,e,r⟩:=S.st
 exact ⟨(List.getElem?_eq_some_iff.mp e).1,(List.getElem?_eq_some_iff.mp S.ce).1⟩
theorem bC {h:MH} {s c:Nat} {cs:List Int} {B:Nat} {m:Int} (S:St s c cs B h) (hB:B < 2^60) (m0:0 < m) (m1:m≤10^40):
  Rn (av [.ob s,.int m] h) fun p=>∃r:Int,p.1=.int r∧0≤r∧r < m∧St s c cs (B+1) p.2∧But s h p.2:=by
 obtain ⟨n,t,hs,n0,t0,tB⟩:=S.st
 refine dA ?_
 walk_at "go"
 refine rv (fL hs rfl) ?_
 walk_at "go"
 refine rv rfl ⟨_,rfl,fun _=>?pos,fun _=>?neg⟩
 case' pos=>
  walk_at "go"
  obtain ⟨p,ep,n',n0',rfl⟩:=qE hs S.ce S.ne t0 (by omega)
  refine rv ep ?_
  have S1:St s c cs (B+1) (h.set s (.lst [.int n',.ob c,.int (t+1)])):=S.set n0' (by omega) (by omega)
  have b1:But s h (h.set s (.lst [.int n',.ob c,.int (t+1)])):=But.set
 case' neg=>
  have S1:St s c cs (B+1) h:=S.up (Nat.le_succ B)
  have b1:But s h h:=But.refl s h
 all_goals
  generalize h.set s (MO.lst [D.int _,D.ob c,D.int (t+1)])=h1 at*
  obtain ⟨n2,t2,hs2,n02,t02,tB2⟩:=S1.st
  walk_at "go"
  refine rv (fL hs2 rfl) ?_
  walk_at "go"
  refine gk m0 ?_
  walk_at "go"
  refine rv (fL hs2 rfl) ?_
  walk_at "go"
  refine vW m0 m1 ?_
  walk_at "go"
  refine rv (mI (p:=0) hs2 rfl) ?_
  walk_at "go"
  exact ⟨_,rfl,Int.emod_nonneg _ (by omega),Int.emod_lt_of_pos _ m0,S1.set (Int.ediv_nonneg n02 (by omega)) t02 tB2,b1.trans But.set⟩
theorem bT {h:MH} {s c:Nat} {cs:List Int} {B:Nat} {d:D} {xs:List D} (S:St s c cs B h) (hB:B < 2^60) (hd:d=.lv xs∨d=.tup xs) (h0:0 < xs.length) (h1:xs.length≤1000000):
  Rn (aA [.ob s,d] h) fun p=>p.1∈xs∧St s c cs (B+1) p.2∧But s h p.2:=by
 refine dA ?_
 walk_at "go"
 have e1:dB [d] h=some (.int xs.length,h):=by rcases hd with rfl | rfl <;> rfl
 refine rv e1 ?_
 walk_at "go"
 obtain ⟨p,ep,r,e2,r0,r1,S1,b1⟩:=bC (m:=(xs.length:Int)) S hB (by omega) (by omega)
 obtain ⟨x,h'⟩:=p
 dsimp only at e2 S1 b1
 subst e2
 refine rv ep ?_
 obtain ⟨v,e3,hv⟩:=tY r0 r1
 have e4:fIx d (.int r) h'=some (v,h'):=by rcases hd with rfl | rfl <;> simp only [fIx,df,cH,Option.bind_some,e3,Option.map_some]
 refine rv e4 ?_
 walk_at "go"
 exact ⟨hv,S1,b1⟩
theorem pj (ns:List Int) (hn:ns.length≤63):∃cs:List Int,cF [.ro (ns.map D.int)] []=some (.ob 1,[.lst (cs.map D.int),.lst [.int 0,.ob 0,.int 0]])∧St 1 0 cs 0 [.lst (cs.map D.int),.lst [.int 0,.ob 0,.int 0]]:=by
 refine ⟨(ns.drop (HT.sIx ns.length 0 none)).take (HT.sIx ns.length ns.length (some 63)-HT.sIx ns.length 0 none),?_,⟨⟨0,0,rfl,by decide,by decide,by decide⟩,rfl,by decide⟩⟩
 have e:Rn (cF [.ro (ns.map D.int)] []) fun p=>p=(.ob 1,[.lst (((ns.drop (HT.sIx ns.length 0 none)).take (HT.sIx ns.length ns.length (some 63)-HT.sIx ns.length 0 none)).map D.int),.lst [.int 0,.ob 0,.int 0]]):=by
  refine dA ?_
  walk_at "go"
  refine oJ ?_
  walk_at "go"
  refine ⟨_,rfl,rv rfl ?_⟩
  walk_at "go"
  refine ⟨_,_,_,rfl,rfl,?_⟩
  walk_at "go"
  simp only [cutD,List.length_map,List.map_drop,List.map_take,List.length_nil,List.nil_append,List.cons_append,List.length_cons]
 obtain ⟨p,ep,rfl⟩:=e
 exact ep
end Mi
namespace Mi
open PySem Sm L2
theorem il {a b:Str} {h:MH} (hl:a.length+b.length≤10000):aV (.str a) (.str b) h=some (.str (a++b),h):=by
 show (if a.length+b.length≤sizeLine then some (D.str (a++b),h) else none)=_
 rw [if_pos (by rw [show sizeLine=16777216 from rfl];omega)]
theorem sX {a:Str} {h:MH} (hl:a.length≤10000):dB [.str a] h=some (.int a.length,h):=by
 show (if a.length≤sizeLine then some (D.int a.length,h) else none)=_
 rw [if_pos (by rw [show sizeLine=16777216 from rfl];omega)]
theorem n6 {a:Str} {lo hi:Option Int} {h:MH} (hl:a.length≤10000):o8 (.str a) lo hi h=some (.str (Txt.slice a lo hi),h):=by
 show (if a.length≤sizeLine then some (D.str (Txt.slice a lo hi),h) else none)=_
 rw [if_pos (by rw [show sizeLine=16777216 from rfl];omega)]
def jN (z:Str) (i:Int):Str:=match atI z.cps.toList i with
 | some c=>⟨#[c]⟩
 | none=>""
theorem va {z:Str} {i:Int} {h:MH} (hl:z.length≤10000) (h0:0≤i) (h1:i < z.cps.toList.length):(jN z i).length=1∧fIx (.str z) (.int i) h=some (.str (jN z i),h):=by
 obtain ⟨v,e,_⟩:=tY (xs:=z.cps.toList) h0 h1
 have e1:jN z i=⟨#[v]⟩:=by unfold jN;rw [e]
 rw [e1]
 refine ⟨rfl,?_⟩
 show (if z.length≤sizeLine then (atI z.cps.toList i).map fun c=>(D.str ⟨#[c]⟩,h) else none)=_
 rw [if_pos (by rw [show sizeLine=16777216 from rfl];omega),e]
 rfl
def dz:Str:="abcdefghijklmnopqrstuvwxyz"
theorem gv {i:Int} {h:MH} (h0:0≤i) (h1:i < 26):(jN dz i).length=1∧fIx (.str "abcdefghijklmnopqrstuvwxyz") (.int i) h=some (.str (jN dz i),h):=
 va (z:=dz) (by decide) h0 (by rw [show (dz.cps.toList.length:Int)=26 by decide];exact h1)
def low (w:Str):Prop:=∀c∈w.cps,97≤c∧c≤122
theorem uX:low "":=fun c hc=>absurd (show c∈(#[]:Array Nat) from hc) (by simp)
theorem mE {a b:Str} (ha:low a) (hb:low b):low (a++b):=by
 intro c hc
 have hc':c∈a.cps++b.cps:=hc
 rcases Array.mem_append.mp hc' with z | z
 ·exact ha c z
 ·exact hb c z
theorem kO {x:Str} (l u:Option Int) (h:low x):low (Txt.slice x l u):=by
 unfold Txt.slice
 split
 ·exact h
 ·intro c hc
  have hc':c∈(List.filterMap (x.cps[·]?) (Builtin.Str.strSliceIndices l u 1 x.length)).toArray:=hc
  rw [List.mem_toArray] at hc'
  obtain ⟨i,_,e⟩:=List.mem_filterMap.mp hc'
  exact h c (Array.mem_of_getElem? e)
theorem oZ:dz.cps.toList=(List.range 26).map (97+·):=by decide+kernel
theorem mW {i:Int} (h0:0≤i) (h1:i < 26):jN dz i=⟨#[97+i.toNat]⟩:=by
 obtain ⟨n,rfl⟩:=Int.eq_ofNat_of_zero_le h0
 have:atI dz.cps.toList (n:Int)=some (97+n):=by
  rw [oZ]
  exact nu (by rw [List.getElem?_map,List.getElem?_range (by omega)];rfl)
 unfold jN
 rw [this]
 rfl
theorem oq {i:Int} (h0:0≤i) (h1:i < 26):low (jN dz i):=by
 rw [mW h0 h1]
 intro c hc
 have:c=97+i.toNat:=by simpa using hc
 omega
theorem nF {x:Str} {j:Int} (h0:0≤j):(Txt.slice x none (some j)).length≤j.toNat:=by
 have key:(Builtin.Str.strSliceIndices none (some j) 1 x.length).length≤j.toNat:=by
  unfold Builtin.Str.strSliceIndices sliceRange
  simp only [show (1:Int) > 0 by decide,if_true,List.length_map,List.length_range]
  (split <;> (try split) <;> (try split) <;> (try simp only [Int.ediv_one]) <;> omega)
 unfold Txt.slice
 split
 ·next z=>simp at z;have:x.cps.size=x.length:=rfl;omega
 ·show (List.filterMap _ (Builtin.Str.strSliceIndices none (some j) 1 x.length)).toArray.size≤_
  rw [List.size_toArray]
  exact Nat.le_trans (List.length_filterMap_le _ _) key
theorem nE {x:Str} {j:Int} (h0:0≤j):(Txt.slice x (some j) none).length≤x.length-j.toNat:=by
 have key:(Builtin.Str.strSliceIndices (some j) none 1 x.length).length≤x.length-j.toNat:=by
  unfold Builtin.Str.strSliceIndices sliceRange
  simp only [show (1:Int) > 0 by decide,if_true,List.length_map,List.length_range]
  (split <;> (try split) <;> (try split) <;> (try simp only [Int.ediv_one]) <;> omega)
 unfold Txt.slice
 split
 ·next z=>simp at z;have:x.cps.size=x.length:=rfl;omega
 ·show (List.filterMap _ (Builtin.Str.strSliceIndices (some j) none 1 x.length)).toArray.size≤_
  rw [List.size_toArray]
  exact Nat.le_trans (List.length_filterMap_le _ _) key
theorem pF {a b x y:Str} (e:a++x++b=a++y++b):x=y:=by
 have e1:(a.cps++x.cps)++b.cps=(a.cps++y.cps)++b.cps:=congrArg Str.cps e
 have e2:=congrArg Array.toList e1
 simp only [Array.toList_append] at e2
 have e3:=List.append_cancel_left (List.append_cancel_right e2)
 cases x;cases y;exact congrArg Str.mk (Array.toList_inj.mp e3)
def wordAt (stem:Str) (at_ first stride:Int) (k:Int):Str:=Txt.slice stem none (some at_)++jN dz ((first+stride*k) % 26)++Txt.slice stem (some at_) none
theorem rj {stem:Str} {at_ first stride:Int} {k j:Nat} (hs:stride∈[1,3,5,7,9,11]) (hk:k < 6) (hj:j < 6) (e:wordAt stem at_ first stride k=wordAt stem at_ first stride j):k=j:=by
 have e1:=pF (show Txt.slice stem none (some at_)++_++Txt.slice stem (some at_) none=Txt.slice stem none (some at_)++_++_ from e)
 rw [mW (Int.emod_nonneg _ (by decide)) (Int.emod_lt_of_pos _ (by decide)),mW (Int.emod_nonneg _ (by decide)) (Int.emod_lt_of_pos _ (by decide))] at e1
 have e2:97+((first+stride*k) % 26).toNat=97+((first+stride*j) % 26).toNat:=by injection e1 with e1;injection e1 with e1;injection e1
 have e3:(first+stride*k) % 26=(first+stride*j) % 26:=by
  have a1:=Int.emod_nonneg (first+stride*k) (show (26:Int)≠0 by decide)
  have a2:=Int.emod_nonneg (first+stride*j) (show (26:Int)≠0 by decide)
  omega
 simp at hs
 rcases hs with rfl | rfl | rfl | rfl | rfl | rfl <;> omega
theorem fF {h:MH} {s c:Nat} {cs:List Int} {B:Nat} {m:Int} (S:Mi.St s c cs B h) (hB:B+100 < 2^60) (m0:0≤m) (m1:m≤6):
  Rn (ck [.ob s,.int m] h) fun p=>∃ws:List Str,p.1=.lv (ws.map D.str)∧ws.length=m.toNat∧(∀w∈ws,1≤w.length∧w.length≤7∧low w)∧ws.Nodup∧Mi.St s c cs (B+20) p.2∧But s h p.2:=by
 refine dA ?_
 walk_at "go"
 refine fE ?_
 walk_at "go"
 obtain ⟨⟨x,h1⟩,e1,hx,S1,b1⟩:=bT (d:=.lv [.int 0,.int 1,.int 1,.int 2,.int 3,.int 6]) S (by omega) (.inl rfl) (by simp) (by simp)
 refine rv e1 ?_
 dsimp only at hx S1 b1
 have hk:∃k:Nat,x=.int k∧k≤6:=by
  simp at hx
  rcases hx with rfl | rfl | rfl | rfl | rfl
  ·exact ⟨0,rfl,by omega⟩
  ·exact ⟨1,rfl,by omega⟩
  ·exact ⟨2,rfl,by omega⟩
  ·exact ⟨3,rfl,by omega⟩
  ·exact ⟨6,rfl,by omega⟩
 obtain ⟨k,rfl,hk⟩:=hk
 walk_at "go"
 refine ⟨(k:Int),rfl,by omega,by omega,?_⟩
 rw [Int.toNat_natCast]
 refine dI (fun i δ h'=>∃stem d4,δ=[some (.ob s),some (.int m),some (.str "abcdefghijklmnopqrstuvwxyz"),some (.str stem),d4,none,none,none]∧stem.length≤i∧low stem∧Mi.St s c cs (B+1+i) h'∧But s h h')
  ⟨"",_,rfl,Nat.le_refl _,uX,S1,b1⟩ (fun _ _ _ _ _=>rfl) ?_ ?_
 ·rintro i x δ h2 hx ⟨stem,d4,rfl,hst,hok,S2,b2⟩
  have hi:i < k:=by
   have:=(List.getElem?_eq_some_iff.mp hx).1
   simpa using this
  walk_at "go"
  obtain ⟨⟨y,h3⟩,e3,r,rfl,r0,r1,S3,b3⟩:=bC (m:=26) S2 (by omega) (by decide) (by decide)
  refine rv e3 ?_
  walk_at "go"
  obtain ⟨hc,e4⟩:=gv (h:=h3) r0 r1
  refine rv e4 ?_
  walk_at "go"
  refine rv (il (by omega)) ?_
  walk_at "go"
  exact ⟨stem++jN dz r,_,rfl,by rw [PySem.Str.length_append];omega,mE hok (oq r0 r1),S3,b2.trans b3⟩
 ·rintro δ h2 ⟨stem,d4,rfl,hst,hok,S2,b2⟩
  rw [List.length_map,List.length_range] at hst S2
  walk_at "go"
  refine rv (sX (by omega)) ?_
  walk_at "go"
  refine rv (a:=(.int ((stem.length:Int)+1),h2)) rfl ?_
  walk_at "go"
  obtain ⟨⟨y,h3⟩,e3,at_,rfl,a0,a1,S3,b3⟩:=bC (m:=(stem.length:Int)+1) S2 (by omega) (by omega) (by omega)
  refine rv e3 ?_
  walk_at "go"
  obtain ⟨⟨y,h4⟩,e4,first,rfl,f0,f1,S4,b4⟩:=bC (m:=26) S3 (by omega) (by decide) (by decide)
  refine rv e4 ?_
  walk_at "go"
  obtain ⟨⟨x,h5⟩,e5,hx,S5,b5⟩:=bT (d:=.lv [.int 1,.int 3,.int 5,.int 7,.int 9,.int 11]) S4 (by omega) (.inl rfl) (by simp) (by simp)
  refine rv e5 ?_
  dsimp only at hx S5 b5 ⊢
  have hs:∃r:Int,x=.int r∧0≤r∧r≤11∧r∈[1,3,5,7,9,11]:=by
   simp at hx
   rcases hx with rfl | rfl | rfl | rfl | rfl | rfl
   ·exact ⟨1,rfl,by decide,by decide,by simp⟩
   ·exact ⟨3,rfl,by decide,by decide,by simp⟩
   ·exact ⟨5,rfl,by decide,by decide,by simp⟩
   ·exact ⟨7,rfl,by decide,by decide,by simp⟩
   ·exact ⟨9,rfl,by decide,by decide,by simp⟩
   ·exact ⟨11,rfl,by decide,by decide,by simp⟩
  obtain ⟨stride,rfl,t0,t1,tm⟩:=hs
  walk_at "go"
  refine fE ?_
  walk_at "go"
  refine ⟨m,rfl,by omega,by omega,?_⟩
  have hw:∀k:Int,1≤(wordAt stem at_ first stride k).length∧(wordAt stem at_ first stride k).length≤7∧low (wordAt stem at_ first stride k):=by
   intro k
   have c0:=Int.emod_nonneg (first+stride*k) (show (26:Int)≠0 by decide)
   have c1:=Int.emod_lt_of_pos (first+stride*k) (show (0:Int) < 26 by decide)
   obtain ⟨hc,e⟩:=gv (i:=(first+stride*k) % 26) (h:=[]) c0 c1
   have s1:=nF (x:=stem) a0
   have s2:=nE (x:=stem) a0
   have s3:low (wordAt stem at_ first stride k):=mE (mE (kO _ _ hok) (oq c0 c1)) (kO _ _ hok)
   refine (fun (z:_∧_)=>⟨z.1,z.2,s3⟩) ?_
   unfold wordAt
   rw [PySem.Str.length_append,PySem.Str.length_append]
   omega
  refine rv (mj rfl (fun x=>match x with | .int k=>some (.str (wordAt stem at_ first stride k)) | _=>none) (fun δ=>∃d0,δ=[d0,some (.int at_),some (.int first),some (.str "abcdefghijklmnopqrstuvwxyz"),some (.str stem),some (.int stride)]) ⟨_,rfl⟩ ?_) ⟨?_,?_⟩
  ·rintro x hx δ ⟨d0,rfl⟩
   obtain ⟨k,hk,rfl⟩:=List.mem_map.mp hx
   refine rv rfl ⟨rfl,rv rfl ⟨rfl,⟨_,rfl⟩,fun _=>⟨_,rfl,?_⟩,fun z=>(nomatch z)⟩⟩
   refine wj (wj (oK ?_))
   walk_at "go"
   refine ⟨_,rfl,rv (n6 (a:=stem) (by omega)) ?_⟩
   walk_at "go"
   refine hG (sL (by omega) (by omega)) ?_
   refine rv (a:=(.int (first+stride*(k:Int)),h5)) rfl ?_
   walk_at "go"
   refine gk (by decide) ?_
   obtain ⟨hc,e⟩:=gv (i:=(first+stride*(k:Int)) % 26) (h:=h5) (Int.emod_nonneg _ (by decide)) (Int.emod_lt_of_pos _ (by decide))
   have s1:=Txt.slice_le stem none (some at_)
   have s2:=Txt.slice_le stem (some at_) none
   refine rv e (rv (il (by omega)) ?_)
   refine oK ?_
   walk_at "go"
   refine ⟨_,rfl,?_⟩
   walk_at "go"
   refine rv (n6 (a:=stem) (by omega)) (rv (il (by rw [PySem.Str.length_append];omega)) ?_)
   rfl
  ·rw [List.filterMap_map]
   exact Nat.le_trans (List.length_filterMap_le _ _) (by rw [List.length_range,show sizeLine=16777216 from rfl];omega)
  ·walk_at "go"
   refine ⟨(List.range m.toNat).map fun (k:Nat)=>wordAt stem at_ first stride (k:Int),?_,by simp,fun w hw'=>?_,?_,S5.up (by omega),b2.trans (b3.trans (b4.trans b5))⟩
   ·rw [List.filterMap_map,List.map_map]
    congr 1
    exact congrFun (List.filterMap_eq_map (f:=D.str∘fun (k:Nat)=>wordAt stem at_ first stride (k:Int))) _
   ·obtain ⟨k,_,rfl⟩:=List.mem_map.mp hw'
    exact hw k
   ·rw [List.nodup_iff_pairwise_ne,List.pairwise_map]
    refine (List.nodup_range (n:=m.toNat)).imp_of_mem fun {a b} ha hb hab e=>hab ?_
    have:=List.mem_range.mp ha
    have:=List.mem_range.mp hb
    exact rj tm (by omega) (by omega) e
end Mi
namespace Mi
open PySem Sm L2
theorem But.app {s:Nat} {hb h2:MH} {o:MO} (b:But s (hb++[o]) h2) (hs:s < hb.length):∃hb',h2=hb'++[o]∧But s hb hb':=by
 have hl:h2.length=hb.length+1:=by rw [b.1];simp
 refine ⟨h2.take hb.length,?_,by rw [List.length_take];omega,fun k hk=>?_⟩
 ·refine List.ext_getElem? fun k=>?_
  by_cases z:k < hb.length
  ·rw [List.getElem?_append_left (by rw [List.length_take];omega),List.getElem?_take_of_lt z]
  ·by_cases z2:k=hb.length
   ·subst z2
    rw [b.2 _ (by omega),List.getElem?_append_right (Nat.le_refl _),List.getElem?_append_right (by rw [List.length_take];omega),List.length_take]
    rw [show min hb.length h2.length=hb.length by omega]
   ·rw [List.getElem?_eq_none (by omega),List.getElem?_eq_none (by rw [List.length_append,List.length_take];simp;omega)]
 ·by_cases z:k < hb.length
  ·rw [List.getElem?_take_of_lt z,b.2 k hk,List.getElem?_append_left z]
  ·rw [List.getElem?_eq_none (by rw [List.length_take];omega),List.getElem?_eq_none (by omega)]
theorem St.cut {s c:Nat} {cs:List Int} {B:Nat} {hb g:MH} (S:Mi.St s c cs B (hb++g)) (h1:s < hb.length) (h2:c < hb.length):Mi.St s c cs B hb:=by
 obtain ⟨n,t,e,r⟩:=S.st
 have e2:=S.ce
 rw [List.getElem?_append_left h1] at e
 rw [List.getElem?_append_left h2] at e2
 exact ⟨⟨n,t,e,r⟩,e2,S.ne⟩
def Cl (h:MH):Prop:=∀o∈h,clO h.length o=true
theorem mV (n:Nat):∀js:List Int,clL n (js.map D.int)=true
 | []=>rfl
 | j::r=>by rw [List.map_cons];show (clD n (.int _)&&clL n _)=true;rw [mV n r];rfl
theorem Cl.but {s c:Nat} {cs:List Int} {B:Nat} {h h':MH} (C:Cl h) (S:Mi.St s c cs B h') (b:But s h h'):Cl h':=by
 intro o ho
 obtain ⟨k,hk⟩:=List.mem_iff_getElem?.mp ho
 by_cases z:k=s
 ·subst z
  obtain ⟨n,t,e,_⟩:=S.st
  rw [e] at hk
  cases hk
  show (true&&(decide (c < h'.length)&&(true&&true)))=true
  rw [decide_eq_true S.lt.2];rfl
 ·rw [b.2 k z] at hk
  rw [b.1]
  exact C o (List.mem_of_getElem? hk)
theorem fH {h hb g:MH} {d:D} (hl:hb.length=h.length) (C:Cl hb) (h1:∀n,d≠.ob n) (h2:clD h.length d=true):leave h d (hb++g)=some (d,hb):=by
 have h3:qh h.length (hb++g) d=d:=by
  cases d with
  | ob n=>exact absurd rfl (h1 n)
  | _=>rfl
 unfold leave
 rw [h3,←hl,List.take_append_of_le_length (Nat.le_refl _),List.take_length,hl,h2]
 have:(hb.all (clO h.length))=true:=by
  rw [List.all_eq_true]
  intro o ho
  rw [←hl]
  exact C o ho
 rw [this,Bool.or_true]
 rfl
theorem Cl.add {h:MH} (C:Cl h) {o:MO} (ho:clO (h.length+1) o=true) (up:∀o∈h,clO h.length o=true→clO (h.length+1) o=true):Cl (h++[o]):=by
 intro x hx
 rw [List.length_append,List.length_singleton]
 rcases List.mem_append.mp hx with z | z
 ·exact up x z (C x z)
 ·rw [List.mem_singleton.mp z];exact ho
mutual
theorem tP {n m:Nat} (hm:n≤m):∀d:D,clD n d=true→clD m d=true
 | .non,_=>rfl
 | .bl _,_=>rfl
 | .int _,_=>rfl
 | .str _,_=>rfl
 | .ty _,_=>rfl
 | .ob k,h=>by simp only [clD,decide_eq_true_eq] at h ⊢;omega
 | .tup xs,h=>by simp only [clD] at h ⊢;exact jM hm xs h
 | .lv xs,h=>by simp only [clD] at h ⊢;exact jM hm xs h
 | .ro xs,h=>by simp only [clD] at h ⊢;exact jM hm xs h
 | .dv xs,h=>by simp only [clD] at h ⊢;exact pB hm xs h
theorem jM {n m:Nat} (hm:n≤m):∀d:List D,clL n d=true→clL m d=true
 | [],_=>rfl
 | x::r,h=>by
  simp only [clL,Bool.and_eq_true] at h ⊢
  exact ⟨tP hm x h.1,jM hm r h.2⟩
theorem pB {n m:Nat} (hm:n≤m):∀d:List (Key×D),clK n d=true→clK m d=true
 | [],_=>rfl
 | (_,x)::r,h=>by
  simp only [clK,Bool.and_eq_true] at h ⊢
  exact ⟨tP hm x h.1,pB hm r h.2⟩
end
theorem xO {n m:Nat} (hm:n≤m) (o:MO) (h:clO n o=true):clO m o=true:=by
 cases o with
 | lst xs=>exact jM hm xs h
 | dct xs=>exact pB hm xs h
theorem Cl.snoc {h:MH} (C:Cl h) {o:MO} (ho:clO (h.length+1) o=true):Cl (h++[o]):=C.add ho fun x _ z=>xO (Nat.le_succ _) x z
theorem Cl.set {h:MH} (C:Cl h) {n:Nat} {o:MO} (ho:clO h.length o=true):Cl (h.set n o):=by
 intro x hx
 rw [List.length_set]
 rcases List.mem_or_eq_of_mem_set hx with z | z
 ·exact C x z
 ·rw [z];exact ho
theorem tO {n:Nat}:∀{xs:List D},(∀x∈xs,clD n x=true)→clL n xs=true
 | [],_=>rfl
 | x::r,h=>by
  show (clD n x&&clL n r)=true
  rw [h x List.mem_cons_self,tO fun y hy=>h y (List.mem_cons_of_mem _ hy)]
  rfl
end Mi
namespace Mi
open PySem Sm L2 Pg
def wdO (W:Wd) (fl:List Int) (left odd:Int):MO:=.dct [(.inr (Str.ofString "names"),.lv (W.names.map D.str)),(.inr (Str.ofString "deeds"),.lv (W.deeds.map D.str)),(.inr (Str.ofString "params"),.lv (W.params.map fun ps=>.lv (ps.map D.str))),(.inr (Str.ofString "floors"),.lv (fl.map D.int)),(.inr (Str.ofString "left"),.int left),(.inr (Str.ofString "odd"),.int odd)]
structure WdOk (W:Wd) (fl:List Int) (odd:Int):Prop where
 n1:1≤W.names.length
 n2:W.names.length≤6
 d1:1≤W.deeds.length
 d2:W.deeds.length≤6
 pl:W.params.length=W.deeds.length
 p3:∀ps∈W.params,ps.length≤3
 fln:fl.length=W.deeds.length
 f0:∀f∈fl,0≤f∧f < W.names.length
 o0:0≤odd
 o1:odd≤1000
 sn:∀w∈W.names,1≤w.length∧w.length≤7∧low w
 sd:∀w∈W.deeds,1≤w.length∧w.length≤7∧low w
 sp:∀ps∈W.params,∀w∈ps,1≤w.length∧w.length≤7∧low w
 nn:W.names.Nodup
 nd:W.deeds.Nodup
 np:∀ps∈W.params,ps.Nodup
section
variable {h:MH} {wd:Nat} {W:Wd} {fl:List Int} {left odd:Int}
theorem cW (hw:h[wd]?=some (wdO W fl left odd)):fIx (.ob wd) (.str (Str.ofString "names")) h=some (.lv (W.names.map D.str),h):=by simp only [fIx,df,hw,wdO];rfl
theorem cX (hw:h[wd]?=some (wdO W fl left odd)):fIx (.ob wd) (.str (Str.ofString "deeds")) h=some (.lv (W.deeds.map D.str),h):=by simp only [fIx,df,hw,wdO];rfl
theorem cD (hw:h[wd]?=some (wdO W fl left odd)):fIx (.ob wd) (.str (Str.ofString "params")) h=some (.lv (W.params.map fun ps=>.lv (ps.map D.str)),h):=by simp only [fIx,df,hw,wdO];rfl
theorem gX (hw:h[wd]?=some (wdO W fl left odd)):fIx (.ob wd) (.str (Str.ofString "floors")) h=some (.lv (fl.map D.int),h):=by simp only [fIx,df,hw,wdO];rfl
theorem iP (hw:h[wd]?=some (wdO W fl left odd)):fIx (.ob wd) (.str (Str.ofString "left")) h=some (.int left,h):=by simp only [fIx,df,hw,wdO];rfl
theorem oy (hw:h[wd]?=some (wdO W fl left odd)):fIx (.ob wd) (.str (Str.ofString "odd")) h=some (.int odd,h):=by simp only [fIx,df,hw,wdO];rfl
theorem rl (hw:h[wd]?=some (wdO W fl left odd)) (v:Int):kg (.ob wd) (.str (Str.ofString "left")) (.int v) h=some (h.set wd (wdO W fl v odd)):=by
 have h1:(6:Nat) < sizeLine:=by decide
 simp only [kg,hw,wdO,qI,Option.bind_some,List.length_cons,List.length_nil]
 rw [if_pos h1]
 rfl
end
theorem gw {h:MH} {s c wd:Nat} {cs:List Int} {B:Nat} {W:Wd} {fl:List Int} {left odd:Int} (S:Mi.St s c cs B h) (hB:B+10 < 2^60) (hw:h[wd]?=some (wdO W fl left odd)) (ok:WdOk W fl odd):
  Rn (bB [.ob s,.ob wd] h) fun p=>∃b:Bool,p.1=.bl b∧Mi.St s c cs (B+1) p.2∧But s h p.2:=by
 refine dA ?_
 walk_at "run"
 refine rv (oy hw) ?_
 walk_at "run"
 refine ⟨_,rfl,fun z=>?_,fun z=>?_⟩
 ·have z:0 < odd:=by simpa using z
  walk_at "run"
  refine rv (oy hw) ?_
  walk_at "run"
  obtain ⟨⟨_,h1⟩,e1,m,rfl,m0,m1,S1,b1⟩:=bC (m:=odd) S (by omega) z (by have:=ok.o1;omega)
  refine rv e1 ?_
  walk_at "run"
  exact ⟨_,rfl,S1,b1⟩
 ·walk_at "run"
  exact ⟨_,rfl,S.up (by omega),But.refl _ _⟩
theorem cI {P:Int→Prop} {xs:List Int} {d:D} (h:d∈xs.map D.int) (hx:∀x∈xs,P x):∃i,d=.int i∧P i:=by
 obtain ⟨i,hi,rfl⟩:=List.mem_map.mp h
 exact ⟨i,rfl,hx i hi⟩
theorem dh {h:MH} {s c:Nat} {cs:List Int} {B:Nat} {ps:List Str} (S:Mi.St s c cs B h) (hB:B+10 < 2^60) (hp:ps.length≤3):
  Rn (ba [.ob s,.lv (ps.map D.str)] h) fun p=>∃t:Term,p.1=bp t∧dU ps t∧t.2≤40∧Mi.St s c cs (B+4) p.2∧But s h p.2:=by
 refine dA ?_
 walk_at "run"
 obtain ⟨⟨_,h1⟩,e1,m,rfl,m0,m1,S1,b1⟩:=bC (m:=81) S (by omega) (by decide) (by decide)
 refine rv e1 ?_
 walk_at "run"
 have plain:∀(h2:MH),Mi.St s c cs (B+2) h2→But s h h2→Rn (aA [.ob s,.lv [.int 0,.int 0,.int 1,.int 1,.int 2,.int 3,.int (-1),.int (m-40)]] h2) fun p=>∃i:Int,p.1=.int i∧-40≤i∧i≤40∧Mi.St s c cs (B+3) p.2∧But s h p.2:=fun h2 S2 b2=>by
  obtain ⟨⟨d,h3⟩,e3,hd,S3,b3⟩:=bT (d:=.lv ([0,0,1,1,2,3,-1,m-40].map D.int)) S2 (by omega) (.inl rfl) (by simp) (by simp)
  obtain ⟨i,rfl,hi⟩:=cI (P:=fun i=>-40≤i∧i≤40) hd (by intro x hx;simp at hx;omega)
  exact rv e3 ⟨i,rfl,hi.1,hi.2,S3,b2.trans b3⟩
 refine ⟨_,rfl,fun z=>?_,fun z=>?_⟩
 ·have z:0 < ps.length:=by simpa using z
  walk_at "run"
  obtain ⟨⟨_,h2⟩,e2,m2,rfl,_,_,S2,b2⟩:=bC (m:=5) S1 (by omega) (by decide) (by decide)
  refine rv e2 ?_
  walk_at "run"
  refine ⟨_,rfl,fun _=>?_,fun _=>?_⟩
  ·walk_at "run"
   obtain ⟨⟨d3,h3⟩,e3,hd3,S3,b3⟩:=bT (d:=.lv (ps.map D.str)) S2 (by omega) (.inl rfl) (by simpa using z) (by simp;omega)
   refine rv e3 ?_
   obtain ⟨w,hw,rfl⟩:=List.mem_map.mp hd3
   walk_at "run"
   obtain ⟨⟨d4,h4⟩,e4,hd4,S4,b4⟩:=bT (d:=.lv ([0,0,0,0,1,1,-1,2,m-40].map D.int)) S3 (by omega) (.inl rfl) (by simp) (by simp)
   obtain ⟨i,rfl,hi⟩:=cI (P:=fun i=>-40≤i∧i≤40) hd4 (by intro x hx;simp at hx;omega)
   refine rv e4 ?_
   walk_at "run"
   exact ⟨(w,i),rfl,⟨.inr hw,by dsimp only;omega,by dsimp only;omega⟩,hi.2,S4.up (by omega),b1.trans (b2.trans (b3.trans b4))⟩
  ·walk_at "run"
   obtain ⟨⟨d,h3⟩,e3,i,hd,i0,i1,S3,b3⟩:=plain h2 (S2.up (by omega)) (b1.trans b2)
   refine rv e3 ?_
   dsimp only at hd
   subst hd
   walk_at "run"
   exact ⟨(Str.ofString "",i),rfl,⟨.inl rfl,by dsimp only;omega,by dsimp only;omega⟩,i1,S3.up (by omega),b3⟩
 ·refine ⟨fun z=>(nomatch z),fun _=>?_⟩
  walk_at "run"
  obtain ⟨⟨d,h3⟩,e3,i,hd,i0,i1,S3,b3⟩:=plain h1 (S1.up (by omega)) b1
  refine rv e3 ?_
  dsimp only at hd
  subst hd
  walk_at "run"
  exact ⟨(Str.ofString "",i),rfl,⟨.inl rfl,by dsimp only;omega,by dsimp only;omega⟩,i1,S3.up (by omega),b3⟩
end Mi
namespace Mi
open PySem Sm L2 Pg
theorem bY {α:Type} {xs:List α} {f:α→D} {h:MH} {j:Nat} {x:α} (e:xs[j]?=some x):fIx (.lv (xs.map f)) (.int j) h=some (f x,h):=by
 have hj:j < xs.length:=by
  rcases Nat.lt_or_ge j xs.length with z | z
  ·exact z
  ·rw [List.getElem?_eq_none z] at e;cases e
 show ((atI (xs.map f) j).map fun z=>(z,h))=_
 have:atI (xs.map f) j=some (f x):=by
  unfold atI
  rw [show ixN (xs.map f).length j=some j by unfold ixN;simp;omega]
  show (xs.map f)[j]?=_
  rw [List.getElem?_map,e];rfl
 rw [this];rfl
theorem gL (i j:Int) (h:MH):mL [.int i,.int j] h=some (.int (max i j),h):=by
 show some (D.int (if j > i then j else i),h)=_
 rw [show (if j > i then j else i)=max i j by split <;> omega]
theorem u9 (i j:Int) (h:MH):sW [.int i,.int j] h=some (.int (min i j),h):=by
 show some (D.int (if j < i then j else i),h)=_
 rw [show (if j < i then j else i)=min i j by split <;> omega]
theorem pY {α:Type} {o:Option Bool} {x y:Option α} {X Y:α→Prop} (r:∃c,o=some c∧(c=true→Rn x Y)∧(c=false→Rn y Y)) (f:∀p,Y p→X p):∃c,o=some c∧(c=true→Rn x X)∧(c=false→Rn y X):=
 let ⟨c,e,a,b⟩:=r
 ⟨c,e,fun z=>(a z).imp f,fun z=>(b z).imp f⟩
def i7 (t:Term):PyData:=.tuple [.str t.1,.int t.2]
theorem kI:∀ts:List Term,pyL (ts.map bp)=some (ts.map i7)
 | []=>rfl
 | c::r=>by simp only [List.map_cons,pyL,kI r,bp,pyD,Option.bind_some,Option.map_some];rfl
theorem iG:∀ts:List Term,PyData.depthAll (ts.map i7)≤1
 | []=>by simp [PyData.depthAll]
 | c::r=>by
  have:=iG r
  simp only [List.map_cons,PyData.depthAll,i7,PyData.depth]
  omega
theorem o9 (ts:List Term) (h:MH):fJ (.lv (ts.map bp)) (.lv []) h=some (.bl (!ts.isEmpty),h):=by
 have:=iG ts
 simp only [fJ,eqA,df,eqD,rdD,kI,pyD,pyL,Option.map_some,Option.bind_some]
 rw [if_pos ⟨show PyData.depthAll _+1≤64 by omega,by decide⟩]
 cases ts <;> rfl
theorem kR {h:MH} {s c wd:Nat} {cs:List Int} {B:Nat} {W:Wd} {fl:List Int} {left odd:Int} {ps:List Str} {j:Nat} {top:Int} {held:List Lock} (S:Mi.St s c cs B h) (hB:B+20 < 2^60) (hw:h[wd]?=some (wdO W fl left odd)) (hne:wd≠s) (ok:WdOk W fl odd) (hp:W.params[j]?=some ps) (hj:j < W.deeds.length) (ht:top≤W.names.length) (hh:∀l∈held,di W ps l) (hl:held.length≤1000):
  Rn (cU [.ob s,.ob wd,.int j,.int top,.lv (held.map aM)] h) fun p=>((∃(k:Int) (l:Lock),p.1=.tup [.int k,aM l]∧max top (fl[j]?.getD 0) < W.names.length∧0≤k∧k < W.names.length∧di W ps l)∨(p.1=.tup [.non,.non]∧max top (fl[j]?.getD 0)=W.names.length))∧Mi.St s c cs (B+10) p.2∧But s h p.2:=by
 obtain ⟨f,hf⟩:∃f,fl[j]?=some f:=⟨_,List.getElem?_eq_getElem (by rw [ok.fln];exact hj)⟩
 have hfm:=ok.f0 f (List.mem_of_getElem? hf)
 rw [hf]
 dsimp only [Option.getD_some]
 refine dA ?_
 walk_at "run"
 refine rv (gX hw) ?_
 walk_at "run"
 refine rv (bY hf) ?_
 walk_at "run"
 refine rv (gL top f h) ?_
 have lo0:0≤max top f:=by omega
 have lo1:max top f≤W.names.length:=by omega
 generalize max top f=lo at lo0 lo1 ⊢
 walk_at "run"
 refine rv (cW hw) ?_
 walk_at "run"
 refine ⟨_,rfl,fun z=>?_,fun z=>?_⟩
 ·have z:lo=W.names.length:=by simpa using z
  walk_at "run"
  exact ⟨.inr ⟨rfl,z⟩,S.up (by omega),But.refl _ _⟩
 have z:lo≠W.names.length:=by simpa using z
 have z0:lo < W.names.length:=by omega
 walk_at "run"
 refine rv (cW hw) ?_
 walk_at "run"
 obtain ⟨⟨_,h1⟩,e1,m,rfl,m0,m1,S1,b1⟩:=bC (m:=W.names.length-lo) S (by omega) (by omega) (by have:=ok.n2;omega)
 simp only [List.length_map]
 refine rv e1 ?_
 have hw1:=(b1.2 wd hne).trans hw
 walk_at "run"
 obtain ⟨⟨_,h2⟩,e2,b,rfl,S2,b2⟩:=gw S1 (by omega) hw1 ok
 refine rv e2 ?_
 have hw2:=(b2.2 wd hne).trans hw1
 walk_at "run"
 refine pY (Y:=fun r=>∃(k:Int) (h3:MH),r=(Fl.nx,[some (.ob s),some (.ob wd),some (.int j),some (.int top),some (.lv (held.map aM)),some (.int lo),some (.int k),none,none,none,none],h3)∧0≤k∧k < W.names.length∧Mi.St s c cs (B+3) h3∧But s h h3) ?_ ?_
 ·refine ⟨b,rfl,fun _=>?_,fun _=>?_⟩
  ·walk_at "run"
   refine rv (cW hw2) ?_
   walk_at "run"
   obtain ⟨⟨_,h3⟩,e3,k,rfl,k0,k1,S3,b3⟩:=bC (m:=W.names.length) S2 (by omega) (by omega) (by have:=ok.n2;omega)
   simp only [List.length_map]
   refine rv e3 ?_
   exact ⟨k,h3,rfl,k0,k1,S3,b1.trans (b2.trans b3)⟩
  ·walk_at "run"
   exact ⟨lo+m,h2,rfl,by omega,by omega,S2.up (by omega),b1.trans b2⟩
 rintro _ ⟨k,h3,rfl,k0,k1,S3,b3⟩
 have hw3:=(b3.2 wd hne).trans hw
 obtain ⟨kn,rfl⟩:=Int.eq_ofNat_of_zero_le k0
 have hkn:kn < W.names.length:=by omega
 obtain ⟨nm,hnm⟩:∃f,W.names[kn]?=some f:=⟨_,List.getElem?_eq_getElem hkn⟩
 show Rn _ _
 walk_at "run"
 refine rv (cW hw3) ?_
 walk_at "run"
 refine rv (bY hnm) ?_
 walk_at "run"
 refine eA ?_
 walk_at "run"
 refine ⟨_,_,rfl,?_⟩
 obtain ⟨⟨ys,h4⟩,e4,hyl,hym,δ4,hh4,_⟩:=iS (ws:=[]) (g:=gN 0) (c:=aY (eOp de (eOp fIx (af 0) (eK (D.int 0))) (af 1))) (e:=eOp fIx (af 0) (eK (D.int 1))) (fun x y=>∃l∈held,x=aM l∧y=bp l.2)
  (xs:=held.map aM) (δ:=[none,some (.str nm)]) (h:=h3) (fun j δ h'=>h'=h3∧∃d0,δ=[d0,some (.str nm)]) ⟨rfl,_,rfl⟩ (fun _ _ _ _ _=>rfl) (by
   rintro i x δ h' hx ⟨rfl,d0,rfl⟩
   obtain ⟨l,hl,rfl⟩:=List.mem_map.mp (List.mem_of_getElem? hx)
   walk_at "run"
   refine rv (a:=(.str l.1,_)) rfl ?_
   walk_at "run"
   refine ⟨_,rfl,fun _=>?_,fun _=>⟨rfl,_,rfl⟩⟩
   walk_at "run"
   refine rv (a:=(bp l.2,_)) rfl ?_
   exact ⟨⟨l,hl,rfl,rfl⟩,rfl,_,rfl⟩)
 dsimp only at hh4
 subst hh4
 refine rv e4 ⟨Nat.le_trans hyl (by rw [List.length_map,show sizeLine=16777216 from rfl];omega),?_⟩
 obtain ⟨ts,rfl,htm⟩:∃ts:List Term,ys=ts.map bp∧∀t∈ts,dU ps t:=by
  clear e4 hyl
  induction ys with
  | nil=>exact ⟨[],rfl,fun _ z=>(nomatch z)⟩
  | cons y r ih=>
   obtain ⟨js,rfl,h1⟩:=ih fun z hz=>hym z (List.mem_cons_of_mem _ hz)
   obtain ⟨x,hx,l,hl,rfl,rfl⟩:=hym y List.mem_cons_self
   exact ⟨l.2::js,rfl,fun j hj=>by
    rcases List.mem_cons.mp hj with rfl | hj
    ·exact (hh l hl).2
    ·exact h1 j hj⟩
 walk_at "run"
 refine rv (o9 ts _) ?_
 have pl:=ok.p3 ps (List.mem_of_getElem? hp)
 refine ⟨_,rfl,fun z=>?_,fun z=>⟨fun z=>(nomatch z),fun _=>?_⟩⟩
 ·walk_at "run"
  obtain ⟨⟨_,h5⟩,e5,b',rfl,S5,b5⟩:=gw S3 (by omega) hw3 ok
  refine rv e5 ?_
  have hw5:=(b5.2 wd hne).trans hw3
  refine ⟨_,rfl,fun _=>?_,fun _=>?_⟩
  ·have hts:ts≠[]:=by rintro rfl;cases z
   obtain ⟨us,last,rfl⟩:∃us last,ts=us++[last]:=⟨ts.dropLast,ts.getLast hts,(List.dropLast_concat_getLast hts).symm⟩
   have hlast:=htm last (by simp)
   walk_at "run"
   refine rv (a:=(bp last,_)) (by
    show ((atI ((us++[last]).map bp) (-1)).map fun z=>(z,h5))=_
    rw [List.map_append]
    show ((atI (us.map bp++[bp last]) (-1)).map fun z=>(z,h5))=_
    rw [tZ];rfl) ?_
   walk_at "run"
   refine rv (a:=_) rfl ?_
   walk_at "run"
   obtain ⟨⟨_,h6⟩,e6,m6,rfl,m60,m61,S6,b6⟩:=bC (m:=2) S5 (by omega) (by decide) (by decide)
   refine rv e6 ?_
   walk_at "run"
   refine rv (u9 _ _ _) ?_
   walk_at "run"
   exact ⟨.inl ⟨kn,(nm,(last.1,min 99 (last.2+1+m6))),rfl,z0,k0,k1,List.mem_of_getElem? hnm,hlast.1,by dsimp only;have:=hlast.2;omega,by dsimp only;omega⟩,S6.up (by omega),b3.trans (b5.trans b6)⟩
  ·walk_at "run"
   refine rv (cD hw5) ?_
   walk_at "run"
   refine rv (bY hp) ?_
   walk_at "run"
   obtain ⟨⟨_,h6⟩,e6,t,rfl,tk,_,S6,b6⟩:=dh (ps:=ps) S5 (by omega) pl
   refine rv e6 ?_
   walk_at "run"
   exact ⟨.inl ⟨kn,(nm,t),rfl,z0,k0,k1,List.mem_of_getElem? hnm,tk⟩,S6.up (by omega),((b3.trans b5)).trans b6⟩
 ·walk_at "run"
  refine rv (cD hw3) ?_
  walk_at "run"
  refine rv (bY hp) ?_
  walk_at "run"
  obtain ⟨⟨_,h6⟩,e6,t,rfl,tk,_,S6,b6⟩:=dh (ps:=ps) S3 (by omega) pl
  refine rv e6 ?_
  walk_at "run"
  exact ⟨.inl ⟨kn,(nm,t),rfl,z0,k0,k1,List.mem_of_getElem? hnm,tk⟩,S6.up (by omega),(b3).trans b6⟩
end Mi
namespace Mi
open PySem Sm L2 Pg
theorem og (cs:List Int) (h:MH):de (.lv (cs.map D.int)) (.lv []) h=some (.bl cs.isEmpty,h):=by
 simp only [de,eqA,df,eqD,rdD,jm,pyD,pyL,Option.map_some,Option.bind_some,PyData.depth,gx]
 cases cs <;> rfl
theorem wy {m:AM} {δ:DS} {h:MH} {Q:List D×MH→Prop} (r:Rn (m δ h) fun p=>∃j:Int,p.1=[.int j]∧0≤j∧j≤1000∧Q ((List.range j.toNat).map fun (k:Nat)=>D.int (k:Int),p.2)):Rn (xS m δ h) Q:=aO (r.imp fun p ⟨j,e,h1,h2,q⟩=>by
 rw [e];dsimp only;rw [if_pos ⟨h1,h2⟩];exact ⟨_,rfl,q⟩)
theorem qW {h:MH} {s c wd:Nat} {cs:List Int} {B:Nat} {W:Wd} {fl:List Int} {left odd:Int} {ps:List Str} {j:Nat} {top:Int} (S:Mi.St s c cs B h) (hB:B+60 < 2^60) (hw:h[wd]?=some (wdO W fl left odd)) (hne:wd≠s) (ok:WdOk W fl odd) (hp:W.params[j]?=some ps) (hj:j < W.deeds.length):
  Rn (dE [.ob s,.ob wd,.int j,.int top] h) fun p=>∃r:Row,p.1=aL r∧(∀n,br W ps n r)∧cnt r=1∧Mi.St s c cs (B+40) p.2∧But s h p.2:=by
 have d2:=ok.d2
 have pl:=ok.p3 ps (List.mem_of_getElem? hp)
 obtain ⟨dj,hdj⟩:∃f,W.deeds[j]?=some f:=⟨_,List.getElem?_eq_getElem hj⟩
 refine dA ?_
 walk_at "run"
 refine fE ?_
 walk_at "run"
 refine rv (cX hw) ?_
 walk_at "run"
 refine ⟨(W.deeds.map D.str).length,rfl,by rw [List.length_map];omega,by rw [List.length_map];omega,?_⟩
 rw [List.length_map,Int.toNat_natCast]
 obtain ⟨⟨ys,h1⟩,e1,hyl,hym,δ1,hh1,_⟩:=iS (ws:=[]) (g:=gN 0) (c:=iJ (aY (eOp fGt (eOp fIx (eOp fIx (af 3) (eK (.str "floors"))) (af 0)) (af 2))) (aY (eOp fGe (af 0) (af 1)))) (e:=af 0) (fun x y=>y=x)
  (xs:=(List.range W.deeds.length).map fun (k:Nat)=>D.int (k:Int)) (δ:=[none,some (.int j),some (.int top),some (.ob wd)]) (h:=h) (fun i δ h'=>h'=h∧∃d0,δ=[d0,some (.int j),some (.int top),some (.ob wd)]) ⟨rfl,_,rfl⟩ (fun _ _ _ _ _=>rfl) (by
   rintro i x δ h' hx ⟨rfl,d0,rfl⟩
   rw [List.getElem?_map] at hx
   obtain ⟨k,hk,hk2⟩:=Option.map_eq_some_iff.mp hx
   subst hk2
   have hkl:k < fl.length:=by rw [ok.fln];exact List.mem_range.mp (List.mem_of_getElem? hk)
   obtain ⟨f,hf⟩:∃f,fl[k]?=some f:=⟨_,List.getElem?_eq_getElem hkl⟩
   walk_at "run"
   refine rv (gX hw) ?_
   walk_at "run"
   refine rv (bY hf) ?_
   walk_at "run"
   refine ⟨_,rfl,fun _=>?_,fun _=>⟨fun z=>(nomatch z),fun _=>⟨rfl,_,rfl⟩⟩⟩
   walk_at "run"
   refine ⟨_,rfl,fun _=>?_,fun _=>⟨rfl,_,rfl⟩⟩
   walk_at "run"
   exact ⟨rfl,rfl,_,rfl⟩)
 dsimp only at hh1
 subst hh1
 refine rv e1 ⟨Nat.le_trans hyl (by rw [List.length_map,List.length_range,show sizeLine=16777216 from rfl];omega),?_⟩
 have hint:∀zs:List D,(∀y∈zs,∃x,x∈(List.range W.deeds.length).map (fun (k:Nat)=>D.int (k:Int))∧y=x)→∃js:List Int,zs=js.map D.int∧∀k∈js,0≤k∧k < W.deeds.length:=by
  intro zs hz
  induction zs with
  | nil=>exact ⟨[],rfl,fun _ z=>(nomatch z)⟩
  | cons y r ih=>
   obtain ⟨js,rfl,q⟩:=ih fun z hz'=>hz z (List.mem_cons_of_mem _ hz')
   obtain ⟨x,hx,rfl⟩:=hz y List.mem_cons_self
   obtain ⟨k,hk,rfl⟩:=List.mem_map.mp hx
   exact ⟨k::js,rfl,fun i hi=>by
    rcases List.mem_cons.mp hi with rfl | hi
    ·have:=List.mem_range.mp hk;omega
    ·exact q i hi⟩
 have hyn:ys.length≤6:=by
  have h9:ys.length≤_:=hyl
  rw [List.length_map,List.length_range] at h9
  omega
 obtain ⟨js,rfl,hjs⟩:=hint ys hym
 rw [List.length_map] at hyn
 walk_at "run"
 obtain ⟨⟨_,h2⟩,e2,b,rfl,S2,b2⟩:=gw S (by omega) hw ok
 refine rv e2 ?_
 have hw2:=(b2.2 wd hne).trans hw
 walk_at "run"
 refine pY (Y:=fun r=>∃(ks:List Int),r=(Fl.nx,[some (.ob s),some (.ob wd),some (.int j),some (.int top),some (.lv (ks.map D.int)),none,none],h2)∧ks.length≤6∧∀k∈ks,0≤k∧k < W.deeds.length) ?_ ?_
 ·refine ⟨b,rfl,fun _=>?_,fun _=>?_⟩
  ·walk_at "run"
   refine wy ?_
   walk_at "run"
   refine rv (cX hw2) ?_
   walk_at "run"
   refine ⟨(W.deeds.map D.str).length,rfl,by rw [List.length_map];omega,by rw [List.length_map];omega,?_⟩
   rw [List.length_map,Int.toNat_natCast]
   obtain ⟨ks,hk1,hk2⟩:=hint _ fun y hy=>⟨y,hy,rfl⟩
   refine ⟨ks,?_,?_,hk2⟩
   ·show _=_
    rw [←hk1];rfl
   ·have:=congrArg List.length hk1
    rw [List.length_map,List.length_map,List.length_range] at this
    omega
  ·walk_at "run"
   exact ⟨js,rfl,hyn,hjs⟩
 rintro _ ⟨ks,rfl,kn,hks⟩
 show Rn _ _
 walk_at "run"
 refine rv (og ks _) ⟨_,rfl,fun z=>?_,fun z=>?_⟩
 ·walk_at "run"
  refine rv (cX hw2) ?_
  walk_at "run"
  refine rv (bY hdj) ?_
  walk_at "run"
  exact ⟨.say dj,by rw [aL],fun n=>by unfold br;exact List.mem_append_right _ (List.mem_of_getElem? hdj),by rw [cnt],S2.up (by omega),b2⟩
 have z0:0 < ks.length:=by cases ks with | nil=>cases z | cons _ _=>simp
 walk_at "run"
 obtain ⟨⟨d3,h3⟩,e3,hd3,S3,b3⟩:=bT (d:=.lv (ks.map D.int)) S2 (by omega) (.inl rfl) (by simpa using z0) (by simp;omega)
 refine rv e3 ?_
 have hw3:=(b3.2 wd hne).trans hw2
 obtain ⟨k,hk,rfl⟩:=List.mem_map.mp hd3
 obtain ⟨k0,k1⟩:=hks k hk
 obtain ⟨kn',rfl⟩:=Int.eq_ofNat_of_zero_le k0
 have hkl:kn' < W.deeds.length:=by omega
 obtain ⟨dk,hdk⟩:∃f,W.deeds[kn']?=some f:=⟨_,List.getElem?_eq_getElem hkl⟩
 obtain ⟨qs,hqs⟩:∃f,W.params[kn']?=some f:=⟨_,List.getElem?_eq_getElem (by rw [ok.pl];exact hkl)⟩
 have ql:=ok.p3 qs (List.mem_of_getElem? hqs)
 walk_at "run"
 refine eA ?_
 walk_at "run"
 refine rv (cD hw3) ?_
 walk_at "run"
 refine rv (bY hqs) ?_
 refine ⟨_,_,rfl,?_⟩
 obtain ⟨⟨zs,h4⟩,e4,hzs,δ4,_,S4,b4⟩:=iT (ws:=[]) (g:=gN 0) (e:=eFn ba (ae (af 2) (ae (eOp fIx (eOp fIx (af 3) (eK (.str "params"))) (af 1)) aj))) (fun _ y=>∃t:Term,y=bp t∧dU ps t)
  (xs:=qs.map D.str) (δ:=[none,some (.int j),some (.ob s),some (.ob wd)]) (h:=h3) (fun i δ h'=>(∃d0,δ=[d0,some (.int j),some (.ob s),some (.ob wd)])∧Mi.St s c cs (B+2+4*i) h'∧But s h3 h') ⟨⟨_,rfl⟩,S3,But.refl _ _⟩ (fun _ _ _ _ _=>rfl) (by
   rintro i x δ h' hx ⟨⟨d0,rfl⟩,Si,bi⟩
   have hi:i < 3:=by
    have:=(List.getElem?_eq_some_iff.mp hx).1
    rw [List.length_map] at this
    omega
   have hwi:=(bi.2 wd hne).trans hw3
   walk_at "run"
   refine rv (cD hwi) ?_
   walk_at "run"
   refine rv (bY hp) ?_
   walk_at "run"
   obtain ⟨⟨_,h6⟩,e6,t,rfl,tk,_,S6,b6⟩:=dh (ps:=ps) Si (by omega) pl
   refine rv e6 ?_
   exact ⟨⟨t,rfl,tk⟩,⟨_,rfl⟩,S6.up (by omega),bi.trans b6⟩)
 obtain ⟨ts,rfl,htm⟩:∃ts:List Term,zs=ts.map bp∧∀t∈ts,dU ps t:=by
  have hr:=hzs.right
  clear e4 hzs S4 b4
  dsimp only at hr
  induction zs with
  | nil=>exact ⟨[],rfl,fun _ z=>(nomatch z)⟩
  | cons y r ih=>
   obtain ⟨js,rfl,h1⟩:=ih fun z hz=>hr z (List.mem_cons_of_mem _ hz)
   obtain ⟨x,hx,t,rfl,tk⟩:=hr y List.mem_cons_self
   exact ⟨t::js,rfl,fun j hj=>by
    rcases List.mem_cons.mp hj with rfl | hj
    ·exact tk
    ·exact h1 j hj⟩
 have hzl:=hzs.length
 dsimp only at hzl
 rw [List.length_map,List.length_map] at hzl
 refine rv e4 ⟨by dsimp only;rw [List.length_map,show sizeLine=16777216 from rfl];omega,?_⟩
 have hw4:=(b4.2 wd hne).trans hw3
 walk_at "run"
 refine rv (cX hw4) ?_
 walk_at "run"
 refine rv (bY hdk) ?_
 walk_at "run"
 refine rv (a:=(.tup (ts.map bp),_)) rfl ?_
 walk_at "run"
 exact ⟨.call dk ts,by rw [aL],fun n=>by unfold br;exact ⟨⟨kn',qs,hdk,hqs,hzl⟩,htm⟩,by rw [cnt],S4.up (by simp;omega),b2.trans (b3.trans b4)⟩
end Mi
namespace Mi
open PySem Sm L2 Pg
def cu (s wd:Nat) (h h':MH):Prop:=h'.length=h.length∧∀k,k≠s→k≠wd→h'[k]?=h[k]?
theorem cu.refl (s wd:Nat) (h:MH):cu s wd h h:=⟨rfl,fun _ _ _=>rfl⟩
theorem cu.trans {s wd:Nat} {h h1 h2:MH} (a:cu s wd h h1) (b:cu s wd h1 h2):cu s wd h h2:=⟨b.1.trans a.1,fun k n m=>(b.2 k n m).trans (a.2 k n m)⟩
theorem But.two {s wd:Nat} {h h1:MH} (a:But s h h1):cu s wd h h1:=⟨a.1,fun k n _=>a.2 k n⟩
theorem cu.set {s wd:Nat} {h:MH} {o:MO}:cu s wd h (h.set wd o):=⟨List.length_set,fun k _ n=>List.getElem?_set_ne (Ne.symm n)⟩
theorem cu.app {s wd:Nat} {hb h2:MH} {o:MO} (b:cu s wd (hb++[o]) h2) (hs:s < hb.length) (hw:wd < hb.length):∃hb',h2=hb'++[o]∧cu s wd hb hb':=by
 have hl:h2.length=hb.length+1:=by rw [b.1];simp
 refine ⟨h2.take hb.length,?_,by rw [List.length_take];omega,fun k hk hk'=>?_⟩
 ·refine List.ext_getElem? fun k=>?_
  by_cases z:k < hb.length
  ·rw [List.getElem?_append_left (by rw [List.length_take];omega),List.getElem?_take_of_lt z]
  ·by_cases z2:k=hb.length
   ·subst z2
    rw [b.2 _ (by omega) (by omega),List.getElem?_append_right (Nat.le_refl _),List.getElem?_append_right (by rw [List.length_take];omega),List.length_take]
    rw [show min hb.length h2.length=hb.length by omega]
   ·rw [List.getElem?_eq_none (by omega),List.getElem?_eq_none (by rw [List.length_append,List.length_take];simp;omega)]
 ·by_cases z:k < hb.length
  ·rw [List.getElem?_take_of_lt z,b.2 k hk hk',List.getElem?_append_left z]
  ·rw [List.getElem?_eq_none (by rw [List.length_take];omega),List.getElem?_eq_none (by omega)]
theorem eJ (n:Nat):∀js:List Str,clL n (js.map D.str)=true
 | []=>rfl
 | j::r=>by rw [List.map_cons];show (clD n (.str _)&&clL n _)=true;rw [eJ n r];rfl
theorem lr (n:Nat):∀js:List (List Str),clL n (js.map fun ps=>.lv (ps.map D.str))=true
 | []=>rfl
 | j::r=>by rw [List.map_cons];show (clL n (j.map D.str)&&clL n _)=true;rw [eJ n j,lr n r];rfl
theorem tN (n:Nat) (W:Wd) (fl:List Int) (l odd:Int):clO n (wdO W fl l odd)=true:=by
 show (clL n _&&(clL n _&&(clL n _&&(clL n _&&(true&&(true&&true))))))=true
 rw [eJ,eJ,lr,mV];rfl
structure Sw (s c wd:Nat) (cs:List Int) (W:Wd) (fl:List Int) (odd:Int) (B:Nat) (l:Int) (h:MH):Prop where
 S:Mi.St s c cs B h
 w:h[wd]?=some (wdO W fl l odd)
 ne:wd≠s
 nc:wd≠c
section
variable {s c wd:Nat} {cs:List Int} {W:Wd} {fl:List Int} {odd:Int} {B B':Nat} {l:Int} {h h':MH}
theorem Sw.but (a:Sw s c wd cs W fl odd B l h) (S:Mi.St s c cs B' h') (b:But s h h'):Sw s c wd cs W fl odd B' l h':=⟨S,(b.2 wd a.ne).trans a.w,a.ne,a.nc⟩
theorem Sw.up (a:Sw s c wd cs W fl odd B l h) (hB:B≤B'):Sw s c wd cs W fl odd B' l h:=⟨a.S.up hB,a.w,a.ne,a.nc⟩
theorem Sw.lt (a:Sw s c wd cs W fl odd B l h):s < h.length∧c < h.length∧wd < h.length:=⟨a.S.lt.1,a.S.lt.2,(List.getElem?_eq_some_iff.mp a.w).1⟩
theorem Sw.set (a:Sw s c wd cs W fl odd B l h) (v:Int):Sw s c wd cs W fl odd B v (h.set wd (wdO W fl v odd)):=by
 obtain ⟨n,t,e,r⟩:=a.S.st
 exact ⟨⟨⟨n,t,by rw [List.getElem?_set_ne a.ne];exact e,r⟩,by rw [List.getElem?_set_ne a.nc];exact a.S.ce,a.S.ne⟩,by rw [List.getElem?_set_self a.lt.2.2],a.ne,a.nc⟩
theorem Sw.cut {g:MH} (a:Sw s c wd cs W fl odd B l (h++g)) (h1:s < h.length) (h2:c < h.length) (h3:wd < h.length):Sw s c wd cs W fl odd B l h:=
 ⟨a.S.cut h1 h2,by have:=a.w;rwa [List.getElem?_append_left h3] at this,a.ne,a.nc⟩
theorem Sw.more (a:Sw s c wd cs W fl odd B l h) (g:MH):Sw s c wd cs W fl odd B l (h++g):=⟨a.S.more g,by rw [List.getElem?_append_left a.lt.2.2];exact a.w,a.ne,a.nc⟩
theorem Cl.two (C:Cl h) (a:Sw s c wd cs W fl odd B l h') (b:cu s wd h h'):Cl h':=by
 intro o ho
 obtain ⟨k,hk⟩:=List.mem_iff_getElem?.mp ho
 by_cases z:k=s
 ·subst z
  obtain ⟨n,t,e,_⟩:=a.S.st
  rw [e] at hk
  cases hk
  show (true&&(decide (c < h'.length)&&(true&&true)))=true
  rw [decide_eq_true a.lt.2.1];rfl
 ·by_cases z2:k=wd
  ·subst z2
   rw [a.w] at hk
   cases hk
   exact tN _ _ _ _ _
  ·rw [b.2 k z z2] at hk
   rw [b.1]
   exact C o (List.mem_of_getElem? hk)
def pH (s c wd:Nat) (cs:List Int) (W:Wd) (fl:List Int) (odd:Int) (f:Nat):Prop:=∀(h:MH) (B:Nat) (l:Int) (j:Nat) (ps:List Str) (d:Nat) (top:Int) (held:List Lock) (most:Int),
 Sw s c wd cs W fl odd B l h→Cl h→B+1000+100*l.toNat < 2^60→0≤l→W.params[j]?=some ps→j < W.deeds.length→1≤d→d≤5→3*(5-d)+2≤f→top≤W.names.length→(∀x∈held,di W ps x)→held.length≤4*d→1≤most→most≤12→
 Rn (aZ f [.ob s,.ob wd,.int j,.int d,.int top,.lv (held.map aM),.int most] h) fun p=>∃(lot:List Row) (l':Int),p.1=.tup (bj lot)∧bx W ps d lot∧lot.length≤12∧0≤l'∧l'+aX lot=l∧Sw s c wd cs W fl odd (B+4+100*aX lot) l' p.2∧cu s wd h p.2
def xW (s c wd:Nat) (cs:List Int) (W:Wd) (fl:List Int) (odd:Int) (f:Nat):Prop:=∀(h:MH) (B:Nat) (l:Int) (j:Nat) (ps:List Str) (d:Nat) (top:Int) (held:List Lock),
 Sw s c wd cs W fl odd B l h→Cl h→B+1090+100*l.toNat < 2^60→0≤l→W.params[j]?=some ps→j < W.deeds.length→1≤d→d≤5→3*(5-d)+1≤f→top≤W.names.length→(∀x∈held,di W ps x)→held.length≤4*d→
 Rn (dr f [.ob s,.ob wd,.int j,.int d,.int top,.lv (held.map aM)] h) fun p=>∃(r:Row) (l':Int),p.1=aL r∧br W ps d r∧0≤l'∧l'+cnt r=l+1∧Sw s c wd cs W fl odd (B+100*cnt r) l' p.2∧cu s wd h p.2
end
end Mi
namespace Mi
open PySem Sm L2 Pg
theorem kH {len:Nat} {b:SM} {ds:List D} {h:MH} {Q:D×MH→Prop} (r:Rn (b (entry len ds) h) (ur fun p=>Rn (leave h p.1 p.2) Q)):Rn (mkL len b ds h) Q:=by
 obtain ⟨p,e,q⟩:=dA r
 obtain ⟨z,e2,k⟩:=q
 refine ⟨z,?_,k⟩
 have e:((b (entry len ds) h).bind uu)=some p:=e
 show ((b (entry len ds) h).bind uu).bind _=_
 rw [e]
 exact e2
theorem j6 {isT:D→MH→Bool} {f:MFn} {o:EM} {m:AM} {δ:DS} {h:MH} {Q:D×MH→Prop} (r:Rn (o δ h) fun p=>isT p.1 p.2=true∧Rn (m δ p.2) fun q=>Rn (f p.1 q.1 q.2) Q):Rn (eM isT f o m δ h) Q:=
 aO (r.imp fun p ⟨e,r⟩=>by rw [if_pos e];exact aO r)
theorem cK {h:MH} {n:Nat} {xs:List D} (e:h[n]?=some (.lst xs)):cb (.ob n) h=true:=by unfold cb eB;dsimp only;rw [e];rfl
theorem dm {h:MH} {n:Nat} {xs:List D} {y:D} (e:h[n]?=some (.lst xs)) (hl:xs.length < sizeLine):c6 (.ob n) [y] h=some (.non,h.set n (.lst (xs++[y]))):=by unfold c6;dsimp only;rw [e];dsimp only;rw [if_pos hl]
theorem mT (n:Nat) (t:Term):clD n (bp t)=true:=rfl
theorem iX (n:Nat) (t:Lock):clD n (aM t)=true:=rfl
theorem cQ {α:Type} (n:Nat) (f:α→D) (hf:∀x,clD n (f x)=true):∀xs:List α,clL n (xs.map f)=true
 | []=>rfl
 | x::r=>by rw [List.map_cons];show (clD n (f x)&&clL n _)=true;rw [hf x,cQ n f hf r];rfl
mutual
theorem dJ (n:Nat):∀r:Row,clD n (aL r)=true
 | .say w=>by rw [aL];rfl
 | .call d ts=>by rw [aL];show (true&&(true&&(clL n _&&true)))=true;rw [cQ n _ (mT n)];rfl
 | .within l b=>by rw [aL];show (true&&(clD n (aM l)&&(clL n _&&true)))=true;rw [iX,c8 n b];rfl
 | .all ls b=>by rw [aL];show (true&&(clL n _&&(clL n _&&true)))=true;rw [cQ n _ (iX n),c8 n b];rfl
 | .ask l b e=>by rw [aL];show (true&&(clD n (aM l)&&(clL n _&&(clL n _&&true))))=true;rw [iX,c8 n b,c8 n e];rfl
 | .by_ s t a b c=>by rw [aL];show (true&&(clD n (bp s)&&(clD n (bp t)&&(clL n _&&(clL n _&&(clL n _&&true))))))=true;rw [mT,mT,c8 n a,c8 n b,c8 n c];rfl
 | .either a b=>by rw [aL];show (true&&(clL n _&&(clL n _&&true)))=true;rw [c8 n a,c8 n b];rfl
 | .again a=>by rw [aL];show (true&&(clL n _&&true))=true;rw [c8 n a];rfl
theorem c8 (n:Nat):∀r:List Row,clL n (bj r)=true
 | []=>by rw [bj];rfl
 | r::rs=>by rw [bj];show (clD n _&&clL n _)=true;rw [dJ n r,c8 n rs];rfl
end
section
variable {s c wd:Nat} {cs:List Int} {W:Wd} {fl:List Int} {odd:Int}
theorem oY (ok:WdOk W fl odd) {f:Nat} (hr:xW s c wd cs W fl odd f):pH s c wd cs W fl odd (f+1):=by
 intro h B l j ps d top held most a C hB l0 hp hj d1 d5 hf ht hh hl m0 m1
 unfold aZ
 refine kH ?_
 walk_at "run"
 refine fE ?_
 walk_at "run"
 refine rv (a:=(.lv (List.replicate 15 (D.int most)),_)) rfl ?_
 walk_at "run"
 refine rv (a:=(.lv ((List.replicate 15 most++[12]).map D.int),_)) rfl ?_
 walk_at "run"
 obtain ⟨⟨d2,h2⟩,e2,hd2,S2,b2⟩:=bT (d:=.lv ((List.replicate 15 most++[12]).map D.int)) (a.S.more [.lst []]) (by omega) (.inl rfl) (by simp) (by simp)
 obtain ⟨i,rfl,hi⟩:=cI (P:=fun i=>1≤i∧i≤12) hd2 (by intro x hx;simp at hx;omega)
 refine rv e2 ?_
 walk_at "run"
 obtain ⟨⟨_,h3⟩,e3,m,rfl,n0,n1,S3,b3⟩:=bC (m:=i+1) S2 (by omega) (by omega) (by omega)
 refine rv e3 ?_
 walk_at "run"
 obtain ⟨hb3,rfl,b3'⟩:=(b2.trans b3).app a.lt.1
 have a3:=(a.but (S3.cut (by rw [b3'.1];exact a.lt.1) (by rw [b3'.1];exact a.lt.2.1)) b3')
 refine ⟨m,rfl,by omega,by omega,?_⟩
 refine dI (fun i δ h'=>∃(lot:List Row) (l':Int) (d8:Option D) (hb:MH),δ=[some (.ob s),some (.ob wd),some (.int j),some (.int d),some (.int top),some (.lv (held.map aM)),some (.int most),some (.ob h.length),d8]∧h'=hb++[.lst (bj lot)]∧bx W ps d lot∧lot.length≤i∧0≤l'∧l'+aX lot=l∧Sw s c wd cs W fl odd (B+2+100*aX lot) l' hb∧cu s wd h hb)
  ⟨[],l,_,hb3,rfl,by rw [bj],by unfold bx;trivial,Nat.le_refl _,l0,by simp [aX],by rw [aX];exact a3.up (by omega),b3'.two⟩ (fun _ _ _ _ _=>rfl) ?_ ?_
 ·rintro k x δ h' hx ⟨lot,l',d8,hb,rfl,rfl,okl,hll,l'0,hc,a4,b4⟩
  have hk:k < 12:=by
   have:=(List.getElem?_eq_some_iff.mp hx).1
   simp at this
   omega
  have hat:∀hb':MH,hb'.length=h.length→(hb'++[MO.lst (bj lot)])[h.length]?=some (.lst (bj lot)):=fun hb' e=>by rw [←e];simp
  have hwm:=(a4.more [MO.lst (bj lot)]).w
  walk_at "run"
  refine rv (iP hwm) ?_
  walk_at "run"
  refine ⟨_,rfl,fun z=>?_,fun z=>?_⟩
  ·have z:0 < l':=by simpa using z
   walk_at "run"
   refine rv (iP hwm) ?_
   walk_at "run"
   refine rv (rl hwm (l'-1)) ?_
   walk_at "run"
   have lt4:=a4.lt
   rw [List.set_append_left _ _ lt4.2.2]
   have a5:=a4.set (l'-1)
   have b5:cu s wd h (hb.set wd (wdO W fl (l'-1) odd)):=b4.trans cu.set
   generalize hb.set wd (wdO W fl (l'-1) odd)=hb5 at a5 b5 ⊢
   have C5:=C.two a5 b5
   refine j6 ?_
   walk_at "run"
   refine ⟨cK (hat hb5 b5.1),?_⟩
   walk_at "run"
   have hcl:0≤l'-1∧l'-1 < l+1:=by omega
   obtain ⟨⟨_,h6⟩,e6,r,l6,rfl,okr,l60,hc6,a6,b6⟩:=hr (hb5++[.lst (bj lot)]) (B+2+100*aX lot) (l'-1) j ps d top held (a5.more _) (C5.snoc (o:=.lst (bj lot)) (c8 _ lot)) (by omega) (by omega) hp hj d1 d5 (by omega) ht hh hl
   dsimp only at hc6 a6 b6
   refine rv e6 ?_
   obtain ⟨hb6,rfl,b6'⟩:=b6.app a5.lt.1 a5.lt.2.2
   have lt5:=a5.lt
   have a6':=a6.cut (by rw [b6'.1];exact lt5.1) (by rw [b6'.1];exact lt5.2.1) (by rw [b6'.1];exact lt5.2.2)
   have hl6:hb6.length=h.length:=by rw [b6'.1,b5.1]
   walk_at "run"
   refine rv (dm (hat hb6 hl6) (by rw [cJ,List.length_map,show sizeLine=16777216 from rfl];omega)) ?_
   walk_at "run"
   have hset:(hb6++[MO.lst (bj lot)]).set h.length (.lst (bj lot++[aL r]))=hb6++[.lst (bj (lot++[r]))]:=by
    rw [show h.length=hb6.length from hl6.symm,List.set_append_right _ _ (Nat.le_refl _),Nat.sub_self,cJ,cJ,List.map_append];rfl
   rw [hset]
   have hcn:aX (lot++[r])=aX lot+cnt r:=by rw [jJ];simp [aX]
   exact ⟨lot++[r],l6,_,hb6,rfl,rfl,kL okl (by unfold bx;exact ⟨okr,by unfold bx;trivial⟩),by simp;omega,l60,by rw [hcn];push_cast;omega,by rw [hcn];exact a6'.up (by omega),b5.trans b6'⟩
  ·walk_at "run"
   exact ⟨lot,l',_,hb,rfl,rfl,okl,by omega,l'0,hc,a4,b4⟩
 ·rintro δ h' ⟨lot,l',d8,hb,rfl,rfl,okl,hll,l'0,hc,a4,b4⟩
  rw [List.length_map,List.length_range] at hll
  have hat:(hb++[MO.lst (bj lot)])[h.length]?=some (.lst (bj lot)):=by rw [←b4.1];simp
  walk_at "run"
  refine rv (a:=(.tup (bj lot),hb++[.lst (bj lot)])) (by
   simp only [cO,cH,hat,Option.map_some]) ?_
  walk_at "run"
  exact rv (fH b4.1 (C.two a4 b4) (fun n z=>(nomatch z)) (c8 _ lot)) ⟨lot,l',rfl,okl,by omega,l'0,hc,a4.up (by omega),b4⟩
end
end Mi
namespace Mi
open PySem Sm L2 Pg
theorem pP {ws:W} {g:GM} {e:EM}:∀{xs:List D} {δ:DS} {h:MH} (J:List D→DS→MH→Prop),J [] δ h→(∀ys δ h,J ys δ h→chk ws h=true)→
  (∀x ys δ h,x∈xs→ys.length < xs.length→J ys δ h→Rn (g x δ h) fun q=>Rn (e q.1 q.2) fun y=>J (ys++[y.1]) q.1 y.2)→Rn (cm ws g fk e xs δ h) fun p=>p.1.length=xs.length∧∃δ',J p.1 δ' p.2
 | [],δ,h,J,hJ,hc,_=>by
  unfold cm
  rw [if_pos (hc [] δ h hJ)]
  exact ⟨_,rfl,rfl,δ,hJ⟩
 | x::xs,δ,h,J,hJ,hc,ht=>by
  unfold cm
  rw [if_pos (hc [] δ h hJ)]
  obtain ⟨⟨δ1,h1⟩,e1,⟨y,h2⟩,e2,J1⟩:=ht x [] δ h List.mem_cons_self (Nat.succ_pos _) hJ
  obtain ⟨⟨ys,h3⟩,e3,a,δ',J2⟩:=pP (ws:=ws) (g:=g) (e:=e) (xs:=xs) (fun ys=>J (y::ys)) J1 (fun ys δ h=>hc (y::ys) δ h) fun x ys δ h hx hl=>ht x (y::ys) δ h (List.mem_cons_of_mem _ hx) (Nat.succ_lt_succ hl)
  refine ⟨(y::ys,h3),?_,congrArg Nat.succ a,δ',J2⟩
  rw [e1]
  dsimp only [Option.bind_some]
  show ((some (true,h1)).bind _)=_
  dsimp only [Option.bind_some] at e2 e3 ⊢
  rw [if_pos rfl,e2]
  dsimp only [Option.bind_some]
  rw [e3]
  rfl
theorem mS (r:Row):1≤cnt r:=by cases r <;> simp [cnt] <;> omega
theorem jD {α:Type} (f:α→D) (xs ys:List α) (h:MH) (hl:xs.length+ys.length≤1000):aV (.lv (xs.map f)) (.lv (ys.map f)) h=some (.lv ((xs++ys).map f),h):=by
 rw [List.map_append]
 simp only [aV,qQ,eB,Option.bind_some,List.length_map]
 rw [if_pos (by rw [show sizeLine=16777216 from rfl];omega)]
theorem yH {t:TM} {x y:SM} {δ:DS} {h:MH} {Q:SQ} (P:Prop) [Decidable P] (e:Rn (t δ h) fun p=>p=(decide P,h)) (q1:P→Rn (x δ h) Q) (q2:¬P→Rn (y δ h) Q):Rn (sIf t x y δ h) Q:=by
 refine vw (e.imp ?_)
 rintro _ rfl
 exact ⟨fun z=>q1 (of_decide_eq_true z),fun z=>q2 (of_decide_eq_false z)⟩
theorem dO {t:TM} {x b:SM} {δ:DS} {h:MH} {Q:SQ} (P:Prop) [Decidable P] (e:Rn (t δ h) fun p=>p=(decide P,h)) (q1:P→Rn (x δ h) (kz b Q)) (q2:¬P→Rn (b δ h) Q):Rn (ax (sIf t x cV) b δ h) Q:=
 nK (yH P e q1 fun z=>⟨_,rfl,q2 z⟩)
theorem dT {P:Prop} [Decidable P] (p:P) (h:MH):(true,h)=(decide P,h):=by rw [decide_eq_true p]
theorem dF {P:Prop} [Decidable P] (p:¬P) (h:MH):(false,h)=(decide P,h):=by rw [decide_eq_false p]
section
variable {s c wd:Nat} {cs:List Int} {W:Wd} {fl:List Int} {odd:Int}
def t7 (s c wd:Nat) (cs:List Int) (W:Wd) (fl:List Int) (odd:Int) (f:Nat):Prop:=∀(h:MH) (B:Nat) (l:Int) (j:Nat) (ps:List Str) (d:Nat) (top:Int) (held:List Lock) (way:Str),
 Sw s c wd cs W fl odd B l h→Cl h→B+1085+100*l.toNat < 2^60→0≤l→W.params[j]?=some ps→j < W.deeds.length→1≤d→d < 5→3*(5-d)≤f→top≤W.names.length→(∀x∈held,di W ps x)→held.length≤4*d→way∈[Str.ofString "within",Str.ofString "ask",Str.ofString "all"]→
 Rn (cp f [.ob s,.ob wd,.int j,.int d,.int top,.lv (held.map aM),.str way] h) fun p=>∃(r:Row) (l':Int),p.1=aL r∧br W ps d r∧0≤l'∧l'+cnt r=l+1∧Sw s c wd cs W fl odd (B+95+100*(cnt r-1)) l' p.2∧cu s wd h p.2
def vo (s c wd:Nat) (cs:List Int) (W:Wd) (fl:List Int) (odd:Int) (f:Nat):Prop:=∀(h:MH) (B:Nat) (l:Int) (j:Nat) (ps:List Str) (d:Nat) (top:Int) (held:List Lock),
 Sw s c wd cs W fl odd B l h→Cl h→B+1085+100*l.toNat < 2^60→5 < l→W.params[j]?=some ps→j < W.deeds.length→1≤d→d < 3→3*(5-d)≤f→top≤W.names.length→(∀x∈held,di W ps x)→held.length≤4*d→
 Rn (bJ f [.ob s,.ob wd,.int j,.int d,.int top,.lv (held.map aM)] h) fun p=>∃(r:Row) (l':Int),p.1=aL r∧br W ps d r∧0≤l'∧l'+cnt r=l+1∧Sw s c wd cs W fl odd (B+95+100*(cnt r-1)) l' p.2∧cu s wd h p.2
theorem kP {f n:Nat} (hlot:pH s c wd cs W fl odd f) (hn:n≤3) {h:MH} {B:Nat} {l:Int} {j:Nat} {ps:List Str} {d:Nat} {top:Int} {held:List Lock}
  (a:Sw s c wd cs W fl odd B l h) (C:Cl h) (hB:B+1020+100*l.toNat < 2^60) (l0:0≤l) (hp:W.params[j]?=some ps) (hj:j < W.deeds.length) (d1:1≤d) (d5:d < 5) (hf:3*(5-d)≤f) (ht:top≤W.names.length) (hh:∀x∈held,di W ps x) (hl:held.length≤4*d):
  Rn (cm [] (gN 0) Sm.fk (eFn (aZ f) (ae (af 4) (ae (af 6) (ae (af 1) (ae (eOp aV (af 2) (eK (.int 1))) (ae (af 5) (ae (af 3) (ae (eK (.int 2)) aj)))))))) ((List.range n).map fun (k:Nat)=>D.int k) [none,some (.int j),some (.int d),some (.lv (held.map aM)),some (.ob s),some (.int top),some (.ob wd)] h) fun p=>∃(lots:List (List Row)) (l':Int),p.1=lots.map (fun t=>D.tup (bj t))∧lots.length=n∧(∀t∈lots,t.length≤12∧bx W ps (d+1) t)∧0≤l'∧l'+((lots.map aX).sum:Nat)=l∧Sw s c wd cs W fl odd (B+4*n+100*(lots.map aX).sum) l' p.2∧cu s wd h p.2:=by
 refine (pP (ws:=[]) (fun ys δ h'=>∃(d0:Option D) (lots:List (List Row)) (l':Int),δ=[d0,some (.int j),some (.int d),some (.lv (held.map aM)),some (.ob s),some (.int top),some (.ob wd)]∧ys=lots.map (fun t=>D.tup (bj t))∧(∀t∈lots,t.length≤12∧bx W ps (d+1) t)∧0≤l'∧l'+((lots.map aX).sum:Nat)=l∧Sw s c wd cs W fl odd (B+4*lots.length+100*(lots.map aX).sum) l' h'∧cu s wd h h') ⟨none,[],l,rfl,rfl,fun _ z=>(nomatch z),l0,by simp,a,cu.refl _ _ _⟩ (fun _ _ _ _=>rfl) ?_).imp ?_
 ·rintro x _ δ h' hx hys ⟨d0,lots,l',rfl,rfl,hok,l'0,hc,a1,b1⟩
  rw [List.length_map,List.length_map,List.length_range] at hys
  walk_at "run"
  obtain ⟨⟨_,h2⟩,e2,lot,l2,rfl,okl,hll,l20,cr,a2,b2⟩:=hlot h' _ l' j ps (d+1) top held 2 a1 (C.two a1 b1) (by omega) l'0 hp hj (by omega) (by omega) (by omega) ht hh (by omega) (by decide) (by decide)
  rw [show ((d+1:Nat):Int)=(d:Int)+1 from rfl] at e2
  refine rv e2 ?_
  have hs:((lots++[lot]).map aX).sum=(lots.map aX).sum+aX lot:=by simp
  refine ⟨_,lots++[lot],l2,rfl,by rw [List.map_append];rfl,fun t z=>?_,l20,by rw [hs];push_cast;omega,?_,b1.trans b2⟩
  ·rcases List.mem_append.mp z with z | z
   ·exact hok t z
   ·rw [List.mem_singleton.mp z];exact ⟨hll,okl⟩
  ·rw [hs,List.length_append,List.length_singleton]
   exact a2.up (by omega)
 ·rintro ⟨ys,h2⟩ ⟨hy,_,d0,lots,l',_,he,hok,l'0,hc,a1,b1⟩
  dsimp only at hy he
  subst he
  rw [List.length_map,List.length_map,List.length_range] at hy
  exact ⟨lots,l',rfl,hy,hok,l'0,hc,a1.up (by omega),b1⟩
theorem vV (ok:WdOk W fl odd) {f:Nat} (hlot:pH s c wd cs W fl odd f) (hlk:t7 s c wd cs W fl odd f) (htw:vo s c wd cs W fl odd f):xW s c wd cs W fl odd (f+1):=by
 intro h B l j ps d top held a C hB l0 hp hj d1 d5 hf ht hh hl
 have pl:=ok.p3 ps (List.mem_of_getElem? hp)
 unfold dr
 refine dA ?_
 walk_at "run"
 obtain ⟨⟨_,h1⟩,e1,w,rfl,w0,w1,S1,b1⟩:=bC (m:=16) a.S (by omega) (by decide) (by decide)
 refine rv e1 ?_
 have a1:=a.but S1 b1
 have C1:=C.but S1 b1
 dsimp only at a1 C1 b1
 have say:∀(Q:D×MH→Prop),(∀(wd':Str) (h2:MH),wd'∈W.names++W.deeds→Mi.St s c cs (B+2) h2→But s h1 h2→Q (.str wd',h2))→Rn (aA [.ob s,.lv ((W.names++W.deeds).map D.str)] h1) Q:=by
  intro Q hq
  obtain ⟨⟨d2,h2⟩,e2,hd2,S2,b2⟩:=bT (d:=.lv ((W.names++W.deeds).map D.str)) S1 (by omega) (.inl rfl) (by have:=ok.n1;simp;omega) (by have:=ok.n2;have:=ok.d2;simp;omega)
  obtain ⟨w',hw',rfl⟩:=List.mem_map.mp hd2
  exact rv e2 (hq w' h2 hw' S2 b2)
 refine dO (w < 2∨(d=5∧w < 11)) ?_ (fun z=>?_) (fun z=>?_)
 ·walk_at "run"
  refine ⟨_,rfl,fun z=>?_,fun z=>?_⟩
  ·have z:w < 2:=by simpa using z
   exact dT (.inl z) _
  ·have z:¬w < 2:=by simpa using z
   walk_at "run"
   refine ⟨_,rfl,fun y=>?_,fun y=>?_⟩
   ·have y0:(d:Int)=5:=by simpa using y
    have y:d=5:=by omega
    walk_at "run"
    refine ⟨_,rfl,?_⟩
    rw [show decide (w < 11)=decide (w < 2∨(d=5∧w < 11)) from decide_eq_decide.mpr (by omega)]
   ·have y0:(d:Int)≠5:=by simpa using y
    have y:d≠5:=by omega
    exact dF (by omega) _
 ·walk_at "run"
  refine rv (cW a1.w) ?_
  walk_at "run"
  refine rv (cX a1.w) ?_
  walk_at "run"
  refine rv (jD D.str W.names W.deeds _ (by have:=ok.n2;have:=ok.d2;omega)) ?_
  walk_at "run"
  refine say _ fun w' h2 hw' S2 b2=>?_
  walk_at "run"
  exact ⟨.say w',l,by rw [aL],by unfold br;exact hw',l0,by rw [cnt];rfl,a1.but (S2.up (by rw [cnt];omega)) b2,(b1.trans b2).two⟩
 have nd:d=5→11≤w:=by omega
 have w2:2≤w:=by omega
 refine dO (12 < w∨d=5) ?_ (fun z=>?_) (fun z=>?_)
 ·walk_at "run"
  refine ⟨_,rfl,fun y=>?_,fun y=>?_⟩
  ·have y:12 < w:=by simpa using y
   exact dT (.inl y) _
  ·have y:¬12 < w:=by simpa using y
   walk_at "run"
   refine ⟨_,rfl,?_⟩
   rw [show ((d:Int)==5)=decide (12 < w∨d=5) by
    rw [Bool.eq_iff_iff];simp only [beq_iff_eq,decide_eq_true_eq];omega]
 ·walk_at "run"
  obtain ⟨⟨_,h2⟩,e2,r,rfl,okr,cr,S2,b2⟩:=qW (top:=top) a1.S (by omega) a1.w a1.ne ok hp hj
  refine rv e2 ?_
  walk_at "run"
  exact ⟨r,l,rfl,okr d,l0,by rw [cr];rfl,a1.but (S2.up (by rw [cr];omega)) b2,(b1.trans b2).two⟩
 have d4:d < 5:=by omega
 refine dO (w=12∧d < 3∧5 < l) ?_ (fun z=>?_) (fun z=>?_)
 ·walk_at "run"
  refine ⟨_,rfl,fun y=>?_,fun y=>?_⟩
  ·have y:w=12:=by simpa using y
   walk_at "run"
   refine ⟨_,rfl,fun x=>?_,fun x=>?_⟩
   ·have x0:(d:Int) < 3:=by simpa using x
    have x:d < 3:=by omega
    walk_at "run"
    refine rv (iP a1.w) ?_
    walk_at "run"
    refine ⟨_,rfl,?_⟩
    rw [show decide (5 < l)=decide (w=12∧d < 3∧5 < l) from decide_eq_decide.mpr (by omega)]
   ·have x0:¬(d:Int) < 3:=by simpa using x
    have x:¬d < 3:=by omega
    exact dF (by omega) _
  ·have y:w≠12:=by simpa using y
   exact dF (by omega) _
 ·walk_at "run"
  obtain ⟨⟨_,h2⟩,e2,r,l2,rfl,okr,l20,cr,a2,b2⟩:=htw h1 (B+1) l j ps d top held a1 C1 (by omega) z.2.2 hp hj d1 z.2.1 (by omega) ht hh hl
  refine rv e2 ?_
  walk_at "run"
  exact ⟨r,l2,rfl,okr,l20,cr,a2.up (by have:=mS r;omega),b1.two.trans b2⟩
 refine dO (w=11∨w=12) ?_ (fun z=>?_) (fun z=>?_)
 ·walk_at "run"
  refine ⟨_,rfl,fun y=>?_,fun y=>?_⟩
  ·have y:w=11:=by simpa using y
   exact dT (.inl y) _
  ·have y:w≠11:=by simpa using y
   walk_at "run"
   refine ⟨_,rfl,?_⟩
   rw [show (w==12)=decide (w=11∨w=12) by rw [Bool.eq_iff_iff];simp only [beq_iff_eq,decide_eq_true_eq];omega]
 ·show Rn (ax _ _ _ _) _
  walk_at "run"
  refine rv (cD a1.w) ?_
  walk_at "run"
  refine rv (bY hp) ?_
  walk_at "run"
  obtain ⟨⟨_,h2⟩,e2,t1,rfl,tk1,_,S2,b2⟩:=dh (ps:=ps) a1.S (by omega) pl
  refine rv e2 ?_
  have a2:=a1.but S2 b2
  walk_at "run"
  refine rv (cD a2.w) ?_
  walk_at "run"
  refine rv (bY hp) ?_
  walk_at "run"
  obtain ⟨⟨_,h3⟩,e3,t2,rfl,tk2,_,S3,b3⟩:=dh (ps:=ps) S2 (by omega) pl
  refine rv e3 ?_
  have a3:=a2.but S3 b3
  have C3:=(C1.but S2 b2).but S3 b3
  dsimp only at a3 C3 b2 b3
  walk_at "run"
  refine ⟨_,_,rfl,?_⟩
  walk_at "run"
  refine fE ?_
  walk_at "run"
  refine ⟨3,rfl,by omega,by omega,?_⟩
  obtain ⟨⟨ys,h4⟩,e4,lots,l4,rfl,hn,hok,l40,cr,a4,b4⟩:=kP (n:=3) hlot (by omega) a3 C3 (by omega) l0 hp hj d1 d4 (by omega) ht hh hl
  match lots,hn with
  | [x,y,v],_=>
   refine rv e4 ⟨by show 3≤sizeLine;decide,?_⟩
   walk_at "run"
   refine rv (a:=(.tup [.tup (bj x),.tup (bj y),.tup (bj v)],_)) rfl ?_
   walk_at "run"
   refine rv (a:=(.tup [.str "by",bp t1,bp t2,.tup (bj x),.tup (bj y),.tup (bj v)],_)) rfl ?_
   walk_at "run"
   simp only [List.map_cons,List.map_nil,List.sum_cons,List.sum_nil] at cr a4
   have hx:=hok x (by simp)
   have hy:=hok y (by simp)
   have hv:=hok v (by simp)
   exact ⟨.by_ t1 t2 x y v,l4,by rw [aL],by unfold br;exact ⟨tk1,tk2,d4,hx.1,hy.1,hv.1,hx.2,hy.2,hv.2⟩,l40,by rw [cnt];push_cast at cr ⊢;omega,a4.up (by rw [cnt];omega),(b1.trans (b2.trans b3)).two.trans b4⟩
 refine dO (w=10) ?_ (fun z=>?_) (fun z=>?_)
 ·walk_at "run"
  refine ⟨_,rfl,?_⟩
  rw [show (w==10)=decide (w=10) by rw [Bool.eq_iff_iff];simp only [beq_iff_eq,decide_eq_true_eq]]
 ·walk_at "run"
  refine fE ?_
  walk_at "run"
  refine ⟨2,rfl,by omega,by omega,?_⟩
  obtain ⟨⟨ys,h2⟩,e2,lots,l2,rfl,hn,hok,l20,cr,a2,b2⟩:=kP (n:=2) hlot (by omega) a1 C1 (by omega) l0 hp hj d1 d4 (by omega) ht hh hl
  match lots,hn with
  | [x,y],_=>
   refine rv e2 ⟨by show 2≤sizeLine;decide,?_⟩
   walk_at "run"
   refine rv (a:=(.tup [.tup (bj x),.tup (bj y)],_)) rfl ?_
   walk_at "run"
   refine rv (a:=(.tup [.str "either",.tup (bj x),.tup (bj y)],_)) rfl ?_
   walk_at "run"
   simp only [List.map_cons,List.map_nil,List.sum_cons,List.sum_nil] at cr a2
   have hx:=hok x (by simp)
   have hy:=hok y (by simp)
   exact ⟨.either x y,l2,by rw [aL],by unfold br;exact ⟨d4,hx.1,hy.1,hx.2,hy.2⟩,l20,by rw [cnt];push_cast at cr ⊢;omega,a2.up (by rw [cnt];omega),b1.two.trans b2⟩
 refine dO (w=9) ?_ (fun z=>?_) (fun z=>?_)
 ·walk_at "run"
  refine ⟨_,rfl,?_⟩
  rw [show (w==9)=decide (w=9) by rw [Bool.eq_iff_iff];simp only [beq_iff_eq,decide_eq_true_eq]]
 ·walk_at "run"
  obtain ⟨⟨_,h2⟩,e2,lot,l2,rfl,okl,hll,l20,cr,a2,b2⟩:=hlot h1 (B+1) l j ps (d+1) top held 2 a1 C1 (by omega) l0 hp hj (by omega) (by omega) (by omega) ht hh (by omega) (by decide) (by decide)
  rw [show ((d+1:Nat):Int)=(d:Int)+1 from rfl] at e2
  refine rv e2 ?_
  walk_at "run"
  exact ⟨.again lot,l2,by rw [aL],by unfold br;exact ⟨d4,hll,okl⟩,l20,by rw [cnt];push_cast;omega,a2.up (by rw [cnt];omega),b1.two.trans b2⟩
 walk_at "run"
 obtain ⟨⟨d2,h2⟩,e2,hd2,S2,b2⟩:=bT (d:=.lv ([Str.ofString "within",Str.ofString "within",Str.ofString "within",Str.ofString "within",Str.ofString "ask",Str.ofString "all"].map D.str)) S1 (by omega) (.inl rfl) (by simp) (by simp)
 obtain ⟨w',hw',rfl⟩:=List.mem_map.mp hd2
 refine rv e2 ?_
 walk_at "run"
 obtain ⟨⟨_,h3⟩,e3,r,l3,rfl,okr,l30,cr,a3,b3⟩:=hlk h2 (B+2) l j ps d top held w' (a1.but S2 b2) (C1.but S2 b2) (by omega) l0 hp hj d1 d4 (by omega) ht hh hl (by simp at hw' ⊢;omega)
 refine rv e3 ?_
 walk_at "run"
 exact ⟨r,l3,rfl,okr,l30,cr,a3.up (by have:=mS r;omega),(b1.trans b2).two.trans b3⟩
end
end Mi
namespace Mi
open PySem Sm L2 Pg
theorem But.vn {s:Nat} {hb h2 g:MH} (b:But s (hb++g) h2) (hs:s < hb.length):∃hb',h2=hb'++g∧But s hb hb':=by
 have hl:h2.length=hb.length+g.length:=by rw [b.1];simp
 refine ⟨h2.take hb.length,?_,by rw [List.length_take];omega,fun k hk=>?_⟩
 ·refine List.ext_getElem? fun k=>?_
  by_cases z:k < hb.length
  ·rw [List.getElem?_append_left (by rw [List.length_take];omega),List.getElem?_take_of_lt z]
  ·rw [b.2 _ (by omega),List.getElem?_append_right (by omega),List.getElem?_append_right (by rw [List.length_take];omega),List.length_take]
   rw [show min hb.length h2.length=hb.length by omega]
 ·by_cases z:k < hb.length
  ·rw [List.getElem?_take_of_lt z,b.2 k hk,List.getElem?_append_left z]
  ·rw [List.getElem?_eq_none (by rw [List.length_take];omega),List.getElem?_eq_none (by omega)]
theorem cu.vn {s wd:Nat} {hb h2 g:MH} (b:cu s wd (hb++g) h2) (hs:s < hb.length) (hw:wd < hb.length):∃hb',h2=hb'++g∧cu s wd hb hb':=by
 have hl:h2.length=hb.length+g.length:=by rw [b.1];simp
 refine ⟨h2.take hb.length,?_,by rw [List.length_take];omega,fun k hk hk'=>?_⟩
 ·refine List.ext_getElem? fun k=>?_
  by_cases z:k < hb.length
  ·rw [List.getElem?_append_left (by rw [List.length_take];omega),List.getElem?_take_of_lt z]
  ·rw [b.2 _ (by omega) (by omega),List.getElem?_append_right (by omega),List.getElem?_append_right (by rw [List.length_take];omega),List.length_take]
   rw [show min hb.length h2.length=hb.length by omega]
 ·by_cases z:k < hb.length
  ·rw [List.getElem?_take_of_lt z,b.2 k hk hk',List.getElem?_append_left z]
  ·rw [List.getElem?_eq_none (by rw [List.length_take];omega),List.getElem?_eq_none (by omega)]
def dM (t:Lock):PyData:=.tuple [.str t.1,i7 t.2]
theorem sf (t:Term):pyD (bp t)=some (i7 t):=by simp only [bp,pyD,pyL,Option.bind_some,Option.map_some];rfl
theorem nM (t:Lock):pyD (aM t)=some (dM t):=by simp only [aM,pyD,pyL,sf,Option.bind_some,Option.map_some];rfl
theorem hW:∀ts:List Lock,pyL (ts.map aM)=some (ts.map dM)
 | []=>rfl
 | c::r=>by simp only [List.map_cons,pyL,hW r,nM,Option.bind_some,Option.map_some]
theorem eh:∀ts:List Lock,PyData.depthAll (ts.map dM)≤2
 | []=>by simp [PyData.depthAll]
 | c::r=>by
  have:=eh r
  simp only [List.map_cons,PyData.depthAll,dM,i7,PyData.depth]
  omega
theorem mJ {h:MH} {n:Nat} {ls:List Lock} (x:Lock) (e:h[n]?=some (.lst (ls.map aM))):mK (aM x) (.ob n) h=some (.bl (!(ls.map dM).any fun b=>PyData.eqv b (dM x)),h):=by
 have h1:=eh ls
 have h2:=eh [x]
 have h3:(dM x).depth≤60:=by
  simp only [List.map_cons,List.map_nil,PyData.depthAll] at h2
  omega
 unfold mK inD
 simp only [df,e]
 show ((cH (.ob n) h).bind _).map _=_
 simp only [cH,e,Option.bind_some,hW]
 show (((rdD h (aM x)).bind _).map _)=_
 rw [show rdD h (aM x)=some (dM x) from nM x]
 dsimp only [Option.bind_some]
 rw [if_pos ⟨h3,by omega⟩]
 rfl
theorem wz {ma mb:EM} {δ:DS} {h:MH} {Q:List D×MH→Prop} (r:Rn (ma δ h) fun p=>Rn (mb δ p.2) fun q=>∃xs ys,eB p.1 q.2=some xs∧eB q.1 q.2=some ys∧xs.length+ys.length≤sizeLine∧Q (xs++ys,q.2)):Rn (xT ma mb δ h) Q:=
 aO (r.imp fun p r=>aO (r.imp fun q ⟨xs,ys,e1,e2,hl,hq⟩=>⟨_,by rw [e1];dsimp only [Option.bind_some];rw [e2];dsimp only [Option.bind_some];rw [if_pos hl],hq⟩))
end Mi
namespace Mi
open PySem Sm L2 Pg
theorem eZ {h hb:MH} {d:D} (hl:hb.length=h.length) (C:Cl hb) (h1:∀n,d≠.ob n) (h2:clD h.length d=true):leave h d hb=some (d,hb):=by
 have:=fH (g:=[]) hl C h1 h2
 rwa [List.append_nil] at this
theorem tf (x:Lock):PyData.eqv (dM x) (dM x)=true:=by
 simp [dM,i7,PyData.eqv,PyData.eqvAll]
section
variable {s c wd:Nat} {cs:List Int} {W:Wd} {fl:List Int} {odd:Int}
theorem qD (ok:WdOk W fl odd) {f:Nat} (hlot:pH s c wd cs W fl odd f):t7 s c wd cs W fl odd (f+1):=by
 intro h B l j ps d top held way a C hB l0 hp hj d1 d5 hf ht hh hl hw
 have pl:=ok.p3 ps (List.mem_of_getElem? hp)
 obtain ⟨dj,hdj⟩:∃f,W.deeds[j]?=some f:=⟨_,List.getElem?_eq_getElem hj⟩
 unfold cp
 refine kH ?_
 walk_at "run"
 obtain ⟨⟨_,h1⟩,e1,hk,S1,b1⟩:=kR (held:=held) a.S (by omega) a.w a.ne ok hp hj ht hh (by omega)
 have a1:=a.but S1 b1
 have C1:=C.but S1 b1
 dsimp only at hk a1 C1 b1
 refine rv e1 ?_
 rcases hk with ⟨k,lk,rfl,hmx,k0,k1,okk⟩ | ⟨rfl,_⟩
 ·walk_at "run"
  refine rv (a:=(.bl false,_)) rfl ⟨_,rfl,fun z=>(nomatch z),fun _=>?_⟩
  refine ⟨_,rfl,?_⟩
  show Rn (ax _ _ _ _) _
  refine dO (way=Str.ofString "all") ?_ (fun z=>?_) (fun z=>?_)
  ·walk_at "run"
   refine ⟨_,rfl,?_⟩
   rw [show (way==Str.ofString "all")=decide (way=Str.ofString "all") by rw [Bool.eq_iff_iff];simp only [beq_iff_eq,decide_eq_true_eq]]
  ·show Rn (ax _ _ _ _) _
   walk_at "run"
   refine ⟨_,_,rfl,?_⟩
   walk_at "run"
   refine fE ?_
   walk_at "run"
   obtain ⟨⟨d2,h2⟩,e2,hd2,S2,b2⟩:=bT (d:=.lv ([1,1,2,3].map D.int)) (S1.more [.lst [aM lk]]) (by omega) (.inl rfl) (by simp) (by simp)
   obtain ⟨i,rfl,hi⟩:=cI (P:=fun i=>1≤i∧i≤3) hd2 (by intro x hx;simp at hx;omega)
   refine rv e2 ?_
   obtain ⟨hb2,rfl,b2'⟩:=b2.vn a1.lt.1
   have lt1:=a1.lt
   have a2:=a1.but (S2.cut (by rw [b2'.1];exact lt1.1) (by rw [b2'.1];exact lt1.2.1)) b2'
   walk_at "run"
   refine ⟨i,rfl,by omega,by omega,?_⟩
   refine dI (fun i δ h'=>∃(ls:List Lock) (hi:Int) (n:Nat) (d11 d12 d13:Option D) (hb g:MH),δ=[some (.ob s),some (.ob wd),some (.int j),some (.int d),some (.int top),some (.lv (held.map aM)),some (.str way),some (.int k),some (aM lk),some (.ob n),some (.int hi),d11,d12,d13,none]∧h'=hb++g∧h'[n]?=some (.lst (ls.map aM))∧h.length≤n∧lk∈ls∧ls.Nodup∧(∀x∈ls,di W ps x)∧ls.length≤i+1∧0≤hi∧hi < W.names.length∧Sw s c wd cs W fl odd (B+11+10*i) l hb∧But s h hb∧Cl (hb++g))
    ⟨[lk],k,h1.length,none,none,none,hb2,[.lst [aM lk]],rfl,rfl,by rw [←b2'.1];simp,by rw [b1.1];exact Nat.le_refl _,by simp,by simp,by simpa using okk,Nat.le_refl _,k0,k1,a2,b1.trans b2',(C1.but a2.S b2').snoc (o:=.lst [aM lk]) rfl⟩ (fun _ _ _ _ _=>rfl) ?_ ?_
   ·rintro q x δ h' hx ⟨ls,hi',n,d11,d12,d13,hb,g,rfl,rfl,hn,hnl,hlk,nd,hok,hll,hi0,hi1,a3,b3,C3⟩
    have hq:q < 3:=by
     have:=(List.getElem?_eq_some_iff.mp hx).1
     simp at this
     omega
    have a3g:=a3.more g
    walk_at "run"
    obtain ⟨⟨_,h4⟩,e4,hk4,S4,b4⟩:=kR (held:=held) a3g.S (by omega) a3g.w a3g.ne ok hp hj ht hh (by omega)
    have C4:=C3.but S4 b4
    dsimp only at hk4 S4 b4 C4
    refine rv e4 ?_
    rcases hk4 with ⟨k4,lk4,rfl,_,k40,k41,okk4⟩ | ⟨_,z4⟩
    ·obtain ⟨hb4,rfl,b4'⟩:=b4.vn a3.lt.1
     have lt3:=a3.lt
     have a4:=a3.but (S4.cut (by rw [b4'.1];exact lt3.1) (by rw [b4'.1];exact lt3.2.1)) b4'
     have hn4:(hb4++g)[n]?=some (.lst (ls.map aM)):=by
      rw [b4.2 n (by have:=a.lt.1;omega)];exact hn
     walk_at "run"
     refine rv (gL _ _ _) ?_
     walk_at "run"
     refine wz ?_
     walk_at "run"
     refine rv (mJ lk4 hn4) ?_
     obtain ⟨us,v,hv,hus,husl,hnd,hokk⟩:∃(us:List Lock) (v:Int),oa [.bl (!(ls.map dM).any fun b=>PyData.eqv b (dM lk4))] (hb4++g)=some (.int v,hb4++g)∧u6 (.lv [aM lk4]) (.int v) (hb4++g)=some (.lv (us.map aM),hb4++g)∧us.length≤1∧(ls++us).Nodup∧∀x∈ls++us,di W ps x:=by
      cases hb0:((ls.map dM).any fun b=>PyData.eqv b (dM lk4)) with
      | true=>exact ⟨[],0,rfl,rfl,by simp,by simpa using nd,by simpa using hok⟩
      | false=>
       have hnot:lk4∉ls:=fun z=>by
        rw [List.any_eq_false] at hb0
        exact hb0 (dM lk4) (List.mem_map_of_mem z) (tf lk4)
       refine ⟨[lk4],1,rfl,rfl,by simp,?_,?_⟩
       ·rw [List.nodup_append]
        refine ⟨nd,by simp,fun x hx y hy z=>hnot ?_⟩
        rw [List.mem_singleton.mp hy] at z
        rw [←z];exact hx
       ·intro x hx
        rcases List.mem_append.mp hx with z | z
        ·exact hok x z
        ·rw [List.mem_singleton.mp z];exact okk4
     walk_at "run"
     refine rv hv ?_
     walk_at "run"
     refine rv hus ?_
     refine ⟨ls.map aM,us.map aM,by simp only [eB,hn4],rfl,by rw [List.length_map,List.length_map,show sizeLine=16777216 from rfl];omega,?_⟩
     refine ⟨ls++us,max hi' k4,(hb4++g).length,_,_,_,hb4,g++[.lst ((ls++us).map aM)],rfl,by rw [List.map_append];exact List.append_assoc _ _ _,by rw [List.map_append];simp,?_,List.mem_append_left _ hlk,hnd,hokk,by simp;omega,by omega,by omega,a4.up (by omega),b3.trans b4',?_⟩
     ·have:=b4'.1
      have:=b3.1
      rw [List.length_append];omega
     ·rw [←List.append_assoc]
      exact C4.snoc (o:=.lst _) (cQ _ _ (iX _) _)
    ·exact absurd z4 (by omega)
   ·rintro δ h' ⟨ls,hi',n,d11,d12,d13,hb,g,rfl,rfl,hn,hnl,hlk,nd,hok,hll,hi0,hi1,a3,b3,C3⟩
    rw [List.length_map,List.length_range] at hll a3
    have lt3:=a3.lt
    show Rn (ax _ _ _ _) _
    refine nK ?_
    refine Rn.imp (Q:=fun r=>∃(ls:List Lock) (g:MH),r=(Fl.nx,[some (.ob s),some (.ob wd),some (.int j),some (.int d),some (.int top),some (.lv (held.map aM)),some (.str way),some (.int k),some (aM lk),some (.ob n),some (.int hi'),d11,d12,d13,none],hb++g)∧(hb++g)[n]?=some (.lst (ls.map aM))∧2≤ls.length∧ls.length≤4∧ls.Nodup∧(∀x∈ls,di W ps x)∧Cl (hb++g)) ?_ ?_
    ·walk_at "run"
     refine rv (p0 hn) ?_
     walk_at "run"
     refine ⟨_,rfl,fun z=>?_,fun z=>?_⟩
     ·have z:ls.length=1:=by
       have:((ls.map aM).length:Int)=1:=by simpa using z
       rw [List.length_map] at this
       omega
      obtain ⟨x0,rfl⟩:∃x0,ls=[x0]:=List.length_eq_one_iff.mp z
      obtain rfl:lk=x0:=List.mem_singleton.mp hlk
      obtain ⟨nm,wo,fi⟩:=lk
      have hok0:=hok _ (List.mem_singleton.mpr rfl)
      walk_at "run"
      refine j6 ?_
      walk_at "run"
      refine ⟨cK hn,?_⟩
      walk_at "run"
      refine rv (a:=(.str nm,_)) rfl ?_
      walk_at "run"
      refine rv (a:=(bp (wo,fi),_)) rfl ?_
      walk_at "run"
      refine rv (a:=(.str wo,_)) rfl ?_
      walk_at "run"
      refine rv (a:=(bp (wo,fi),_)) rfl ?_
      walk_at "run"
      refine rv (a:=(.int fi,_)) rfl ?_
      walk_at "run"
      refine rv (a:=(bp (wo,fi),_)) rfl ?_
      walk_at "run"
      refine rv (a:=(.int fi,_)) rfl ?_
      walk_at "run"
      obtain ⟨v,hv,hm,v1,v0⟩:∃v:Int,oa [.bl (decide (90 < fi))] (hb++g)=some (.int v,hb++g)∧fK (.int 2) (.int v) (hb++g)=some (.int (2*v),hb++g)∧(90 < fi→v=1)∧(¬90 < fi→v=0):=by
       by_cases z:90 < fi
       ·exact ⟨1,by rw [decide_eq_true z];rfl,rfl,fun _=>rfl,fun y=>absurd z y⟩
       ·exact ⟨0,by rw [decide_eq_false z];rfl,rfl,fun y=>absurd y z,fun _=>rfl⟩
      refine rv hv ?_
      walk_at "run"
      refine rv hm ?_
      walk_at "run"
      refine rv (dm hn (by rw [List.length_map,show sizeLine=16777216 from rfl];simp)) ?_
      walk_at "run"
      have hlen:=b3.1
      rw [List.set_append_right _ _ (by omega)]
      have okf:=hok0.2
      have okn:=hok0.1
      dsimp only at okn
      unfold dU at okf
      dsimp only at okf
      have hvv:v=0∨v=1:=by by_cases z:90 < fi <;> omega
      refine ⟨[(nm,wo,fi),(nm,wo,fi+1-2*v)],_,rfl,?_,by simp,by simp,?_,?_,?_⟩
      ·rw [List.getElem?_append_right (by omega),List.getElem?_set_self]
       ·rfl
       ·have:=(List.getElem?_eq_some_iff.mp hn).1
        rw [List.length_append] at this
        omega
      ·simp;omega
      ·intro x hx
       rcases List.mem_cons.mp hx with rfl | hx
       ·exact hok0
       ·rw [List.mem_singleton.mp hx]
        exact ⟨okn,okf.1,by dsimp only;omega,by dsimp only;omega⟩
      ·rw [←List.set_append_right _ _ (by omega)]
       exact C3.set (o:=.lst _) rfl
     ·have z:ls.length≠1:=by
       have:((ls.map aM).length:Int)≠1:=by simpa using z
       rw [List.length_map] at this
       omega
      have:0 < ls.length:=List.length_pos_of_mem hlk
      exact ⟨_,rfl,ls,g,rfl,hn,by omega,by omega,nd,hok,C3⟩
    rintro _ ⟨ls,g,rfl,hn,l2,l4,nd,hok,C4⟩
    have a4:=a3.more g
    show Rn (ax _ _ _ _) _
    walk_at "run"
    refine rv (oy a4.w) ?_
    walk_at "run"
    obtain ⟨v,hv,v0,v1⟩:∃v:Int,oa [.bl (odd==0)] (hb++g)=some (.int v,hb++g)∧0≤v∧v≤1:=by
     cases odd==0
     ·exact ⟨0,rfl,by omega,by omega⟩
     ·exact ⟨1,rfl,by omega,by omega⟩
    refine rv hv ?_
    walk_at "run"
    refine rv (a:=(.tup (ls.map aM),_)) (by simp only [cO,cH,hn,Option.map_some];rfl) ?_
    walk_at "run"
    refine rv (gL _ _ _) ?_
    walk_at "run"
    refine rv (a:=(.lv ((held++ls).map aM),_)) (by
     rw [List.map_append]
     simp only [aV,qQ,eB,hn,Option.bind_some,List.length_map]
     rw [if_pos (by rw [show sizeLine=16777216 from rfl];omega)]) ?_
    walk_at "run"
    obtain ⟨⟨_,h5⟩,e5,lot,l5,rfl,okl,hll5,l50,cr,a5,b5⟩:=hlot (hb++g) _ l j ps (d+1) (max top (hi'+v)) (held++ls) 3 a4 C4 (by omega) l0 hp hj (by omega) (by omega) (by omega) (by omega) (by
     intro x hx
     rcases List.mem_append.mp hx with z | z
     ·exact hh x z
     ·exact hok x z) (by simp;omega) (by decide) (by decide)
    rw [show ((d+1:Nat):Int)=(d:Int)+1 from rfl] at e5
    refine rv e5 ?_
    obtain ⟨hb5,rfl,b5'⟩:=b5.vn lt3.1 lt3.2.2
    have a5':=a5.cut (by rw [b5'.1];exact lt3.1) (by rw [b5'.1];exact lt3.2.1) (by rw [b5'.1];exact lt3.2.2)
    have b6:cu s wd h hb5:=b3.two.trans b5'
    walk_at "run"
    refine rv (fH b6.1 (C.two a5' b6) (fun n z=>(nomatch z)) ?_) ?_
    ·have:=dJ h.length (.all ls lot)
     rw [aL] at this;exact this
    ·exact ⟨.all ls lot,l5,by rw [aL],by unfold br;exact ⟨⟨l2,l4,nd,hok⟩,d5,hll5,okl⟩,l50,by rw [cnt];push_cast;omega,a5'.up (by rw [cnt];omega),b6⟩
  refine nK ?_
  walk_at "run"
  refine rv (gL _ _ _) ?_
  walk_at "run"
  refine rv (jD aM held [lk] _ (by simp;omega)) ?_
  walk_at "run"
  obtain ⟨⟨_,h2⟩,e2,lot,l2,rfl,okl,hll,l20,cr,a2,b2⟩:=hlot h1 (B+10) l j ps (d+1) (max top k) (held++[lk]) 3 a1 C1 (by omega) l0 hp hj (by omega) (by omega) (by omega) (by omega) (by
   intro x hx
   rcases List.mem_append.mp hx with z | z
   ·exact hh x z
   ·rw [List.mem_singleton.mp z];exact okk) (by simp;omega) (by decide) (by decide)
  rw [show ((d+1:Nat):Int)=(d:Int)+1 from rfl] at e2
  refine rv e2 ?_
  have C2:=C1.two a2 b2
  refine Rn.imp (Q:=_) (dO (way=Str.ofString "ask") ?_ (fun z=>?_) (fun z=>?_)) fun _ z=>z
  ·walk_at "run"
   refine ⟨_,rfl,?_⟩
   rw [show (way==Str.ofString "ask")=decide (way=Str.ofString "ask") by rw [Bool.eq_iff_iff];simp only [beq_iff_eq,decide_eq_true_eq]]
  ·walk_at "run"
   obtain ⟨⟨_,h3⟩,e3,lot3,l3,rfl,okl3,hll3,l30,cr3,a3,b3⟩:=hlot h2 _ l2 j ps (d+1) top held 2 a2 C2 (by omega) l20 hp hj (by omega) (by omega) (by omega) ht hh (by omega) (by decide) (by decide)
   rw [show ((d+1:Nat):Int)=(d:Int)+1 from rfl] at e3
   refine rv e3 ?_
   walk_at "run"
   have b4:=(b1.two.trans (b2.trans b3))
   refine rv (eZ b4.1 (C2.two a3 b3) (fun n z=>(nomatch z)) ?_) ?_
   ·have:=dJ h.length (.ask lk lot lot3)
    rw [aL] at this;exact this
   ·exact ⟨.ask lk lot lot3,l3,by rw [aL],by unfold br;exact ⟨okk,d5,hll,hll3,okl,okl3⟩,l30,by rw [cnt];push_cast;omega,a3.up (by rw [cnt];omega),b4⟩
  ·walk_at "run"
   have b4:=(b1.two.trans b2)
   refine rv (eZ b4.1 C2 (fun n z=>(nomatch z)) ?_) ?_
   ·have:=dJ h.length (.within lk lot)
    rw [aL] at this;exact this
   ·exact ⟨.within lk lot,l2,by rw [aL],by unfold br;exact ⟨okk,d5,hll,okl⟩,l20,by rw [cnt];push_cast;omega,a2.up (by rw [cnt];omega),b4⟩
 ·walk_at "run"
  refine rv (a:=(.bl true,_)) rfl ⟨_,rfl,fun _=>?_,fun z=>(nomatch z)⟩
  walk_at "run"
  refine rv (cX a1.w) ?_
  walk_at "run"
  refine rv (bY hdj) ?_
  walk_at "run"
  refine rv (eZ b1.1 C1 (fun n z=>(nomatch z)) rfl) ?_
  exact ⟨.say dj,l,by rw [aL],by unfold br;exact List.mem_append_right _ (List.mem_of_getElem? hdj),l0,by rw [cnt];rfl,a1.up (by rw [cnt];omega),b1.two⟩
end
end Mi
namespace Mi
open PySem Sm L2 Pg
theorem pd (ts:List Lock) (h:MH):fJ (.lv (ts.map aM)) (.lv []) h=some (.bl (!ts.isEmpty),h):=by
 have:=eh ts
 simp only [fJ,eqA,df,eqD,rdD,hW,pyD,pyL,Option.map_some,Option.bind_some]
 rw [if_pos ⟨show PyData.depthAll _+1≤64 by omega,by decide⟩]
 cases ts <;> rfl
section
variable {s c wd:Nat} {cs:List Int} {W:Wd} {fl:List Int} {odd:Int}
theorem ring (ok:WdOk W fl odd) (two:∀f,pH s c wd cs W fl odd f→vo s c wd cs W fl odd (f+1)):∀f,pH s c wd cs W fl odd f∧xW s c wd cs W fl odd f∧t7 s c wd cs W fl odd f∧vo s c wd cs W fl odd f
 | 0=>⟨fun _ _ _ _ _ _ _ _ _ _ _ _ _ _ _ _ _ z=>absurd z (by omega),fun _ _ _ _ _ _ _ _ _ _ _ _ _ _ _ _ z=>absurd z (by omega),fun _ _ _ _ _ _ _ _ _ _ _ _ _ _ _ _ z1 z=>absurd z (by omega),fun _ _ _ _ _ _ _ _ _ _ _ _ _ _ _ z1 z=>absurd z (by omega)⟩
 | f+1=>by
  obtain ⟨a,b,c,d⟩:=ring ok two f
  exact ⟨oY ok b,vV ok a c d,qD ok a,two f a⟩
end
end Mi
namespace Mi
open PySem Sm L2 Pg
section
variable {s c wd:Nat} {cs:List Int} {W:Wd} {fl:List Int} {odd:Int}
theorem vG (ok:WdOk W fl odd) {f:Nat} (hlot:pH s c wd cs W fl odd f):vo s c wd cs W fl odd (f+1):=by
 intro h B l j ps d top held a C hB l5 hp hj d1 d3 hf ht hh hl
 have pl:=ok.p3 ps (List.mem_of_getElem? hp)
 obtain ⟨dj,hdj⟩:∃f,W.deeds[j]?=some f:=⟨_,List.getElem?_eq_getElem hj⟩
 obtain ⟨fj,hfj⟩:∃f,fl[j]?=some f:=⟨_,List.getElem?_eq_getElem (by rw [ok.fln];exact hj)⟩
 have hfm:=ok.f0 fj (List.mem_of_getElem? hfj)
 have hsay:Rn (leave h (.tup [.str "say",.str dj]) h) fun p=>∃(r:Row) (l':Int),p.1=aL r∧br W ps d r∧0≤l'∧l'+cnt r=l+1∧Sw s c wd cs W fl odd (B+95+100*(cnt r-1)) l' p.2∧cu s wd h p.2:=by
  refine rv (eZ rfl C (fun n z=>(nomatch z)) rfl) ?_
  exact ⟨.say dj,l,by rw [aL],by unfold br;exact List.mem_append_right _ (List.mem_of_getElem? hdj),by omega,by rw [cnt];rfl,a.up (by rw [cnt];omega),cu.refl _ _ _⟩
 unfold bJ
 refine kH ?_
 walk_at "run"
 refine rv (gX a.w) ?_
 walk_at "run"
 refine rv (bY hfj) ?_
 walk_at "run"
 refine rv (gL top fj h) ?_
 have lo0:0≤max top fj:=by omega
 have lo1:max top fj≤W.names.length:=by omega
 generalize max top fj=lo at lo0 lo1 ⊢
 refine dO (lo=W.names.length) ?_ (fun z=>?_) (fun z=>?_)
 ·walk_at "run"
  refine rv (cW a.w) ?_
  walk_at "run"
  refine ⟨_,rfl,?_⟩
  rw [List.length_map,show (lo==(W.names.length:Int))=decide (lo=W.names.length) by rw [Bool.eq_iff_iff];simp only [beq_iff_eq,decide_eq_true_eq]]
 ·walk_at "run"
  refine rv (cX a.w) ?_
  walk_at "run"
  refine rv (bY hdj) ?_
  walk_at "run"
  exact hsay
 obtain ⟨kn,rfl⟩:=Int.eq_ofNat_of_zero_le lo0
 have hkn:kn < W.names.length:=by omega
 obtain ⟨nm,hnm⟩:∃f,W.names[kn]?=some f:=⟨_,List.getElem?_eq_getElem hkn⟩
 refine nK ?_
 walk_at "run"
 refine eA ?_
 walk_at "run"
 refine ⟨_,_,rfl,?_⟩
 obtain ⟨⟨ys,h4⟩,e4,hyl,hym,δ4,hh4,_⟩:=iS (ws:=[]) (g:=gN 0) (c:=aY (eOp de (eOp fIx (af 0) (eK (.int 0))) (eOp fIx (eOp fIx (af 2) (eK (.str "names"))) (af 1)))) (e:=af 0) (fun x y=>∃l∈held,y=aM l)
  (xs:=held.map aM) (δ:=[none,some (.int kn),some (.ob wd)]) (h:=h) (fun j δ h'=>h'=h∧∃d0,δ=[d0,some (.int kn),some (.ob wd)]) ⟨rfl,_,rfl⟩ (fun _ _ _ _ _=>rfl) (by
   rintro i x δ h' hx ⟨rfl,d0,rfl⟩
   obtain ⟨l,hl,rfl⟩:=List.mem_map.mp (List.mem_of_getElem? hx)
   walk_at "run"
   refine rv (a:=(.str l.1,_)) rfl ?_
   walk_at "run"
   refine rv (cW a.w) ?_
   walk_at "run"
   refine rv (bY hnm) ?_
   walk_at "run"
   refine ⟨_,rfl,fun _=>?_,fun _=>⟨rfl,_,rfl⟩⟩
   walk_at "run"
   exact ⟨⟨l,hl,rfl⟩,rfl,_,rfl⟩)
 dsimp only at hh4
 subst hh4
 refine rv e4 ⟨Nat.le_trans hyl (by rw [List.length_map,show sizeLine=16777216 from rfl];omega),?_⟩
 obtain ⟨ts,rfl⟩:∃ts:List Lock,ys=ts.map aM:=by
  clear e4 hyl
  induction ys with
  | nil=>exact ⟨[],rfl⟩
  | cons y r ih=>
   obtain ⟨js,rfl⟩:=ih fun z hz=>hym z (List.mem_cons_of_mem _ hz)
   obtain ⟨x,hx,l,hl,rfl⟩:=hym y List.mem_cons_self
   exact ⟨l::js,rfl⟩
 walk_at "run"
 refine rv (pd ts _) ⟨_,rfl,fun z=>?_,fun z=>?_⟩
 ·walk_at "run"
  refine rv (cX a.w) ?_
  walk_at "run"
  refine rv (bY hdj) ?_
  walk_at "run"
  exact hsay
 walk_at "run"
 refine rv (cW a.w) ?_
 walk_at "run"
 refine rv (bY hnm) ?_
 walk_at "run"
 refine rv (iP a.w) ?_
 walk_at "run"
 refine rv (rl a.w (l-5)) ?_
 have a1:=a.set (l-5)
 have b1:cu s wd h4 (h4.set wd (wdO W fl (l-5) odd)):=cu.set
 have C1:=C.two a1 b1
 generalize h4.set wd (wdO W fl (l-5) odd)=h5 at a1 b1 C1 ⊢
 walk_at "run"
 refine rv (cD a1.w) ?_
 walk_at "run"
 refine rv (bY hp) ?_
 walk_at "run"
 obtain ⟨⟨_,h2⟩,e2,t1,rfl,tk1,_,S2,b2⟩:=dh (ps:=ps) a1.S (by omega) pl
 refine rv e2 ?_
 have a2:=a1.but S2 b2
 walk_at "run"
 refine rv (cD a2.w) ?_
 walk_at "run"
 refine rv (bY hp) ?_
 walk_at "run"
 obtain ⟨⟨_,h3⟩,e3,t2,rfl,tk2,_,S3,b3⟩:=dh (ps:=ps) S2 (by omega) pl
 refine rv e3 ?_
 have a3:=a2.but S3 b3
 have C3:=(C1.but S2 b2).but S3 b3
 dsimp only at a3 C3 b2 b3
 walk_at "run"
 refine ⟨_,_,rfl,?_⟩
 walk_at "run"
 refine eA ?_
 walk_at "run"
 refine ⟨_,_,rfl,?_⟩
 have hlen3:h3.length=h4.length:=by rw [b3.1,b2.1,b1.1]
 have bb3:cu s wd h4 h3:=b1.trans (b2.two.trans b3.two)
 refine dI (fun i δ h'=>∃(rows:List Row) (l':Int) (d11 d12 d13:Option D) (hb:MH),δ=[some (.ob s),some (.ob wd),some (.int j),some (.int d),some (.int top),some (.lv (held.map aM)),some (.int kn),some (.str nm),some (bp t1),some (bp t2),some (.ob h3.length),d11,d12,d13]∧h'=hb++[.lst (rows.map fun r=>.tup [aL r])]∧rows.length=i∧(∀r∈rows,br W ps (d+1) r)∧0≤l'∧l'+((rows.map cnt).sum:Nat)=l-5+2*i∧Sw s c wd cs W fl odd (B+8+100*(rows.map cnt).sum) l' hb∧cu s wd h4 hb)
  ⟨[],l-5,_,_,_,h3,rfl,rfl,rfl,fun _ z=>(nomatch z),by omega,by simp,a3.up (by omega),bb3⟩ (fun _ _ _ _ _=>rfl) ?_ ?_
 ·rintro i x δ h' hx ⟨rows,l',d11,d12,d13,hb,rfl,rfl,hrl,hro,l'0,hc,a6,b6⟩
  have hi:i < 2:=(List.getElem?_eq_some_iff.mp hx).1
  obtain ⟨u,v,rfl,uk,vk⟩:∃u v:Term,x=.tup [bp u,bp v]∧dU ps u∧dU ps v:=by
   rcases List.mem_cons.mp (List.mem_of_getElem? hx) with rfl | hx
   ·exact ⟨t1,t2,rfl,tk1,tk2⟩
   ·rw [List.mem_singleton.mp hx]
    exact ⟨t2,t1,rfl,tk2,tk1⟩
  have okn:=List.mem_of_getElem? hnm
  have C6:=C.two a6 b6
  have hlb:hb.length=h3.length:=by rw [b6.1,hlen3]
  generalize hrs:rows.map (fun r=>D.tup [aL r])=rs
  have hcl:clL (hb.length+1) rs=true:=by rw [←hrs];exact cQ _ _ (fun r=>by show (clD _ (aL r)&&true)=true;rw [dJ];rfl) rows
  walk_at "run"
  refine rv (jD aM held [(nm,u),(nm,v)] _ (by simp;omega)) ?_
  walk_at "run"
  obtain ⟨⟨_,h7⟩,e7,lot,l7,rfl,okl,hll,l70,cr,a7,b7⟩:=hlot (hb++[.lst rs]) _ l' j ps (d+3) kn (held++[(nm,u),(nm,v)]) 2 (a6.more _) (C6.snoc (o:=.lst rs) hcl) (by omega) l'0 hp hj (by omega) (by omega) (by omega) lo1 (by
   intro x hx
   rcases List.mem_append.mp hx with z | z
   ·exact hh x z
   ·rcases List.mem_cons.mp z with rfl | z
    ·exact ⟨okn,uk⟩
    ·rw [List.mem_singleton.mp z];exact ⟨okn,vk⟩) (by simp;omega) (by decide) (by decide)
  rw [show ((d+3:Nat):Int)=(d:Int)+3 from rfl] at e7
  refine rv e7 ?_
  obtain ⟨hb7,rfl,b7'⟩:=b7.app a6.lt.1 a6.lt.2.2
  have lt6:=a6.lt
  have a7':=a7.cut (by rw [b7'.1];exact lt6.1) (by rw [b7'.1];exact lt6.2.1) (by rw [b7'.1];exact lt6.2.2)
  have hl7:hb7.length=h3.length:=by rw [b7'.1,hlb]
  have hat:(hb7++[MO.lst rs])[h3.length]?=some (.lst rs):=by rw [←hl7];simp
  walk_at "run"
  refine j6 ?_
  walk_at "run"
  refine ⟨cK hat,?_⟩
  walk_at "run"
  refine rv (dm hat (by rw [←hrs,List.length_map,show sizeLine=16777216 from rfl];omega)) ?_
  walk_at "run"
  have hcn:((rows++[Row.within (nm,u) [Row.within (nm,v) lot]]).map cnt).sum=(rows.map cnt).sum+(2+aX lot):=by
   rw [List.map_append,List.sum_append]
   simp [cnt,aX]
   omega
  refine ⟨rows++[.within (nm,u) [.within (nm,v) lot]],l7,_,_,_,hb7,rfl,?_,by simp [hrl],?_,l70,by rw [hcn];push_cast;omega,by rw [hcn];exact a7'.up (by omega),b6.trans b7'⟩
  ·rw [show h3.length=hb7.length from hl7.symm,List.set_append_right _ _ (Nat.le_refl _),Nat.sub_self,List.map_append,hrs]
   simp [aL,bj,aM]
  ·intro r hr
   rcases List.mem_append.mp hr with z | z
   ·exact hro r z
   ·rw [List.mem_singleton.mp z]
    simp only [br,bx]
    exact ⟨⟨okn,uk⟩,by omega,by simp,⟨⟨okn,vk⟩,by omega,hll,okl⟩,trivial⟩
 ·rintro δ h' ⟨rows,l',d11,d12,d13,hb,rfl,rfl,hrl,hro,l'0,hc,a6,b6⟩
  have okn:=List.mem_of_getElem? hnm
  match rows,hrl with
  | [r0,r1],_=>
   have hc:l'+((([r0,r1]:List Row).map cnt).sum:Nat)=l-5+2*2:=hc
   have hlb:hb.length=h3.length:=by rw [b6.1,hlen3]
   have hat:(hb++[MO.lst [.tup [aL r0],.tup [aL r1]]])[h3.length]?=some (.lst [.tup [aL r0],.tup [aL r1]]):=by rw [←hlb];simp
   show Rn _ _
   walk_at "run"
   refine rv (fL hat (d:=.tup [aL r0]) rfl) ?_
   walk_at "run"
   refine rv (fL hat (d:=.tup [aL r1]) rfl) ?_
   walk_at "run"
   have hcn:cnt (Row.by_ t1 t2 [r0] [.within (nm,t1) []] [r1])=2+((([r0,r1]:List Row).map cnt).sum):=by simp [cnt,aX];omega
   have hD:aL (Row.by_ t1 t2 [r0] [.within (nm,t1) []] [r1])=.tup [.str "by",bp t1,bp t2,.tup [aL r0],.tup [.tup [.str "within",.tup [.str nm,bp t1],.tup []]],.tup [aL r1]]:=by simp [aL,bj,aM]
   refine rv (fH b6.1 (C.two a6 b6) (fun n z=>(nomatch z)) ?_) ?_
   ·rw [←hD];exact dJ _ _
   ·refine ⟨.by_ t1 t2 [r0] [.within (nm,t1) []] [r1],l',hD.symm,?_,l'0,by rw [hcn];push_cast;omega,a6.up (by rw [hcn];omega),b6⟩
    simp only [br,bx]
    exact ⟨tk1,tk2,by omega,by simp,by simp,by simp,⟨hro r0 (by simp),trivial⟩,⟨⟨⟨okn,tk1⟩,by omega,by simp,trivial⟩,trivial⟩,⟨hro r1 (by simp),trivial⟩⟩
end
end Mi
namespace Mi
open PySem Sm L2 Pg
theorem mG {P:Int→Prop}:∀{zs:List D},(∀y∈zs,∃i,y=.int i∧P i)→∃js:List Int,zs=js.map D.int∧∀j∈js,P j
 | [],_=>⟨[],rfl,fun _ z=>(nomatch z)⟩
 | y::r,h=>by
  obtain ⟨js,rfl,q⟩:=mG (zs:=r) fun z hz=>h z (List.mem_cons_of_mem _ hz)
  obtain ⟨i,rfl,p⟩:=h y List.mem_cons_self
  exact ⟨i::js,rfl,fun j hj=>by
   rcases List.mem_cons.mp hj with rfl | hj
   ·exact p
   ·exact q j hj⟩
theorem kZ:∀ns:List Int,jy (ns.map D.int)=some ns
 | []=>rfl
 | n::r=>by rw [List.map_cons];show (jy (r.map D.int)).map _=_;rw [kZ r];rfl
theorem qN {α:Type} (f:α→D) (xs:List α) (k:Nat) (h:MH):o8 (.lv (xs.map f)) none (some (k:Int)) h=some (.lv ((xs.take k).map f),h):=by
 show some (D.lv (cutD (xs.map f) none (some (k:Int))),h)=_
 unfold cutD
 rw [HT.rR,HT.uo,List.drop_zero,Nat.sub_zero,List.length_map,←List.map_take]
 by_cases z:k≤xs.length
 ·rw [Nat.min_eq_left z]
 ·rw [Nat.min_eq_right (by omega),List.take_of_length_le (Nat.le_refl _),List.take_of_length_le (by omega)]
theorem ox {h:MH} {s c:Nat} {cs:List Int} {B:Nat} {most odd:Int} (S:Mi.St s c cs B h) (hB:B+1000 < 2^60) (o0:0≤odd) (o1:odd≤1000):
  Rn (dc [.ob s,.int most,.int odd] h) fun p=>∃(W:Wd) (fl:List Int) (hb:MH),p.1=.ob h.length∧p.2=hb++[wdO W fl most odd]∧WdOk W fl odd∧Mi.St s c cs (B+100) hb∧But s h hb:=by
 refine dA ?_
 walk_at "run"
 obtain ⟨⟨d1,h1⟩,e1,hd1,S1,b1⟩:=bT (d:=.lv ([1,2,2,3,4,6].map D.int)) S (by omega) (.inl rfl) (by simp) (by simp)
 obtain ⟨n1,rfl,hn1⟩:=cI (P:=fun i=>1≤i∧i≤6) hd1 (by decide)
 refine rv e1 ?_
 walk_at "run"
 obtain ⟨⟨_,h2⟩,e2,ns,rfl,nl,nk,nnd,S2,b2⟩:=fF (m:=n1) S1 (by omega) (by omega) (by omega)
 refine rv e2 ?_
 walk_at "run"
 obtain ⟨⟨d3,h3⟩,e3,hd3,S3,b3⟩:=bT (d:=.lv ([1,1,2,2,3,4,6].map D.int)) S2 (by omega) (.inl rfl) (by simp) (by simp)
 obtain ⟨n2,rfl,hn2⟩:=cI (P:=fun i=>1≤i∧i≤6) hd3 (by decide)
 refine rv e3 ?_
 walk_at "run"
 obtain ⟨⟨_,h4⟩,e4,ds,rfl,dl,dk,dnd,S4,b4⟩:=fF (m:=n2) S3 (by omega) (by omega) (by omega)
 refine rv e4 ?_
 walk_at "run"
 obtain ⟨⟨_,h5⟩,e5,ps,rfl,pl,pk,pnd,S5,b5⟩:=fF (m:=3) S4 (by omega) (by omega) (by omega)
 refine rv e5 ?_
 have bb5:=b1.trans (b2.trans (b3.trans (b4.trans b5)))
 dsimp only at S5 bb5
 walk_at "run"
 refine eA ?_
 walk_at "run"
 refine ⟨_,_,rfl,?_⟩
 obtain ⟨⟨ys,h6⟩,e6,a6,δ6,_,S6,b6⟩:=iT (ws:=[]) (g:=gN 0) (e:=eFn aA (ae (af 1) (ae (eK (.lv [.int 0,.int 1,.int 1,.int 2,.int 2,.int 3])) aj))) (fun _ y=>∃i,y=.int i∧0≤i∧i≤3)
  (xs:=ds.map D.str) (δ:=[none,some (.ob s)]) (h:=h5) (fun i δ h'=>(∃d0,δ=[d0,some (.ob s)])∧Mi.St s c cs (B+70+i) h'∧But s h5 h') ⟨⟨_,rfl⟩,S5.up (by omega),But.refl _ _⟩ (fun _ _ _ _ _=>rfl) (by
   rintro i x δ h' hx ⟨⟨d0,rfl⟩,Si,bi⟩
   have hi:i < 6:=by
    have:=(List.getElem?_eq_some_iff.mp hx).1
    rw [List.length_map] at this
    omega
   walk_at "run"
   obtain ⟨⟨d7,h7⟩,e7,hd7,S7,b7⟩:=bT (d:=.lv ([0,1,1,2,2,3].map D.int)) Si (by omega) (.inl rfl) (by simp) (by simp)
   refine rv e7 ?_
   exact ⟨cI (P:=fun i=>0≤i∧i≤3) hd7 (by decide),⟨_,rfl⟩,S7.up (by omega),bi.trans b7⟩)
 have l6:=a6.length
 obtain ⟨many,rfl,hmany⟩:=mG (P:=fun i=>0≤i∧i≤3) fun y hy=>(let ⟨_,_,r⟩:=a6.right y hy;r)
 dsimp only at S6 b6 l6
 rw [List.length_map,List.length_map] at l6
 rw [List.length_map] at S6
 refine rv e6 ⟨by dsimp only;rw [List.length_map,show sizeLine=16777216 from rfl];omega,?_⟩
 walk_at "run"
 refine eA ?_
 walk_at "run"
 refine ⟨_,_,rfl,?_⟩
 obtain ⟨⟨ys,h7⟩,e7,a7,δ7,_,S7,b7⟩:=iT (ws:=[]) (g:=gN 0) (e:=eFn av (ae (af 2) (ae (eFn dB (ae (af 1) aj)) aj))) (fun _ y=>∃i,y=.int i∧0≤i∧i < ns.length)
  (xs:=ds.map D.str) (δ:=[none,some (.lv (ns.map D.str)),some (.ob s)]) (h:=h6) (fun i δ h'=>(∃d0,δ=[d0,some (.lv (ns.map D.str)),some (.ob s)])∧Mi.St s c cs (B+80+i) h'∧But s h6 h') ⟨⟨_,rfl⟩,S6.up (by omega),But.refl _ _⟩ (fun _ _ _ _ _=>rfl) (by
   rintro i x δ h' hx ⟨⟨d0,rfl⟩,Si,bi⟩
   have hi:i < 6:=by
    have:=(List.getElem?_eq_some_iff.mp hx).1
    rw [List.length_map] at this
    omega
   walk_at "run"
   obtain ⟨⟨d7,h7⟩,e7,r,rfl,r0,r1,S7,b7⟩:=bC (m:=ns.length) Si (by omega) (by omega) (by omega)
   rw [List.length_map]
   refine rv e7 ?_
   exact ⟨⟨r,rfl,r0,r1⟩,⟨_,rfl⟩,S7.up (by omega),bi.trans b7⟩)
 have l7:=a7.length
 obtain ⟨fls,rfl,hfls⟩:=mG (P:=fun i=>0≤i∧i < ns.length) fun y hy=>(let ⟨_,_,r⟩:=a7.right y hy;r)
 dsimp only at S7 b7 l7
 rw [List.length_map,List.length_map] at l7
 rw [List.length_map] at S7
 refine rv e7 ⟨by dsimp only;rw [List.length_map,show sizeLine=16777216 from rfl];omega,?_⟩
 walk_at "run"
 refine rv (a:=(.lv ((fW fls).map D.int),h7)) (by
  show (jy (fls.map D.int)).bind _=_
  rw [kZ]
  show (if fls.length < 64 then _ else _)=_
  rw [if_pos (by omega)]) ?_
 walk_at "run"
 refine eA ?_
 walk_at "run"
 refine ⟨_,_,rfl,?_⟩
 have e8:cm [] (gN 0) fk (mN (af 1) pNo (pAt (af 0))) (many.map D.int) [none,some (.lv (ps.map D.str))] h7=some ((many.map D.int).filterMap fun d=>match d with | .int k=>some (.lv ((ps.take k.toNat).map D.str)) | _=>none,h7):=
  mj rfl _ (fun δ=>∃d0,δ=[d0,some (.lv (ps.map D.str))]) ⟨_,rfl⟩ (by
   rintro x hx δ ⟨d0,rfl⟩
   obtain ⟨k,hk,rfl⟩:=List.mem_map.mp hx
   refine rv rfl ⟨rfl,rv rfl ⟨rfl,⟨_,rfl⟩,fun _=>⟨_,rfl,?_⟩,fun z=>(nomatch z)⟩⟩
   obtain ⟨n,rfl⟩:=Int.eq_ofNat_of_zero_le (hmany k hk).1
   walk_at "run"
   refine ⟨_,rfl,rv (qN D.str ps n _) ?_⟩
   rfl)
 have e9:((many.map D.int).filterMap fun d=>match d with | .int k=>some (D.lv ((ps.take k.toNat).map D.str)) | _=>none)=(many.map fun k=>ps.take k.toNat).map fun ps=>D.lv (ps.map D.str):=by
  rw [List.filterMap_map,List.map_map]
  exact congrFun (List.filterMap_eq_map (f:=(fun ps:List Str=>D.lv (ps.map D.str))∘fun k:Int=>ps.take k.toNat)) _
 rw [e9] at e8
 refine rv e8 ⟨by dsimp only;rw [List.length_map,List.length_map,show sizeLine=16777216 from rfl];omega,?_⟩
 walk_at "run"
 have hfin:∀(a b c d e f:D),Rn (pf (bM (eK (.str "names")) (af 3) (bM (eK (.str "deeds")) (af 4) (bM (eK (.str "params")) (af 5) (bM (eK (.str "floors")) (af 7) (bM (eK (.str "left")) (af 1) (bM (eK (.str "odd")) (af 2) sC)))))) [some (.ob s),some (.int most),some (.int odd),some a,some b,some c,some d,some e] h7) fun p=>p=(.ob h7.length,h7++[.dct [(.inr (Str.ofString "names"),a),(.inr (Str.ofString "deeds"),b),(.inr (Str.ofString "params"),c),(.inr (Str.ofString "floors"),e),(.inr (Str.ofString "left"),.int most),(.inr (Str.ofString "odd"),.int odd)]]):=fun a b c d e f=>⟨_,rfl,rfl⟩
 refine (hfin _ _ _ _ _ .non).imp ?_
 rintro _ rfl
 walk_at "run"
 have hb:=bb5.trans (b6.trans b7)
 refine ⟨⟨ns,ds,many.map fun k=>ps.take k.toNat⟩,fW fls,h7,by rw [hb.1],rfl,⟨?_,?_,?_,?_,?_,?_,?_,?_,o0,o1,nk,dk,?_,nnd,dnd,?_⟩,S7.up (by omega),hb⟩
 ·show 1≤ns.length;omega
 ·show ns.length≤6;omega
 ·show 1≤ds.length;omega
 ·show ds.length≤6;omega
 ·show (many.map _).length=ds.length;rw [List.length_map];omega
 ·intro q hq
  obtain ⟨k,hk,rfl⟩:=List.mem_map.mp hq
  rw [List.length_take]
  have:=pl
  omega
 ·show (fW fls).length=ds.length;rw [(eO fls).length_eq];omega
 ·intro f hf
  exact hfls f ((eO fls).mem_iff.mp hf)
 ·intro q hq w hw
  obtain ⟨k,hk,rfl⟩:=List.mem_map.mp hq
  exact pk w (List.mem_of_mem_take hw)
 ·intro q hq
  obtain ⟨k,hk,rfl⟩:=List.mem_map.mp hq
  exact pnd.sublist (List.take_sublist _ _)
end Mi
namespace Pg
open PySem Sm L2
abbrev gU:=Str×List Str×List Row
structure Prog where
 names:List Str
 deeds:List gU
def dg (d:gU):D:=.tup [.str d.1,.tup (d.2.1.map D.str),.tup (bj d.2.2)]
def gG (P:Prog):D:=.tup [.tup (P.names.map D.str),.tup (P.deeds.map dg)]
structure OkP (W:Wd) (most:Nat) (P:Prog):Prop where
 nm:P.names=ff W.names
 dl:P.deeds.length=W.deeds.length
 dd:∀(j:Nat) (d:gU),P.deeds[j]?=some d→W.deeds[j]?=some d.1∧W.params[j]?=some d.2.1∧bx W d.2.1 1 d.2.2∧d.2.2.length≤12
 ct:(P.deeds.map fun d=>aX d.2.2).sum≤most
end Pg
namespace Mi
open PySem Sm L2 Pg
theorem p7 (n:Nat) (d:gU):clD n (dg d)=true:=by
 show (true&&(clL n (d.2.1.map D.str)&&(clL n (bj d.2.2)&&true)))=true
 rw [eJ,c8];rfl
theorem vg (n:Nat) (P:Prog):clD n (gG P)=true:=by
 show (clL n (P.names.map D.str)&&(clL n (P.deeds.map dg)&&true))=true
 rw [eJ,cQ n _ (p7 n)];rfl
theorem cu.last {s:Nat} {hb h2:MH} {o:MO} (b:cu s hb.length (hb++[o]) h2) (hs:s < hb.length):∃hb' o',h2=hb'++[o']∧But s hb hb':=by
 have hl:h2.length=hb.length+1:=by rw [b.1];simp
 have hx:hb.length < h2.length:=by omega
 refine ⟨h2.take hb.length,h2[hb.length]'hx,?_,by rw [List.length_take];omega,fun k hk=>?_⟩
 ·rw [List.take_append_getElem,List.take_of_length_le (by omega)]
 ·by_cases z:k < hb.length
  ·rw [List.getElem?_take_of_lt z,b.2 k hk (by omega),List.getElem?_append_left z]
  ·rw [List.getElem?_eq_none (by rw [List.length_take];omega),List.getElem?_eq_none (by omega)]
theorem gM {α:Type} {f:α→D} {xs:List α} {i:Nat} {x:D} (h:(fZ 0 (xs.map f))[i]?=some x):∃a,xs[i]?=some a∧x=.tup [.int (i:Int),f a]:=by
 rw [ip,List.getElem?_map] at h
 cases e:xs[i]? with
 | none=>rw [e] at h;cases h
 | some a=>
  rw [e] at h
  cases h
  exact ⟨a,rfl,by rw [Nat.zero_add]⟩
theorem mm {h:MH} {s c:Nat} {cs:List Int} {B:Nat} {most odd:Int} (S:Mi.St s c cs B h) (C:Cl h) (hB:B+3000+100*most.toNat < 2^60) (m0:0≤most) (o0:0≤odd) (o1:odd≤1000):
  Rn (cB [.ob s,.int most,.int odd] h) fun p=>∃(W:Wd) (fl:List Int) (P:Prog),p.1=gG P∧WdOk W fl odd∧OkP W most.toNat P∧Mi.St s c cs (B+200+100*most.toNat) p.2∧But s h p.2:=by
 refine kH ?_
 walk_at "run"
 obtain ⟨⟨_,h1⟩,e1,W,fl,hb,rfl,rfl,ok,S1,b1⟩:=ox (most:=most) S (by omega) o0 o1
 refine rv e1 ?_
 have hlen:=b1.1
 have lt1:s < hb.length∧c < hb.length:=S1.lt
 have a0:Sw s c h.length cs W fl odd (B+100) most (hb++[wdO W fl most odd]):=⟨S1.more _,by rw [←hlen];simp,by omega,by omega⟩
 have C0:Cl (hb++[wdO W fl most odd]):=(C.but S1 b1).snoc (tN _ _ _ _ _)
 walk_at "run"
 refine gF ?_
 walk_at "run"
 refine rv (cX (a0.more _).w) ?_
 walk_at "run"
 refine ⟨_,_,_,rfl,rfl,?_⟩
 have hobl:(hb++[wdO W fl most odd]).length=h.length+1:=by simp [hlen]
 rw [hobl]
 refine dI (fun i δ h'=>∃(dds:List gU) (l':Int) (d5 d6 d7:Option D) (hw:MH),δ=[some (.ob s),some (.int most),some (.int odd),some (.ob h.length),some (.ob (h.length+1)),d5,d6,d7]∧h'=hw++[.lst (dds.map dg)]∧dds.length=i∧(∀(j:Nat) (d:gU),dds[j]?=some d→W.deeds[j]?=some d.1∧W.params[j]?=some d.2.1∧bx W d.2.1 1 d.2.2∧d.2.2.length≤12)∧0≤l'∧l'+((dds.map fun d=>aX d.2.2).sum:Nat)=most∧Sw s c h.length cs W fl odd (B+100+5*i+100*(dds.map fun d=>aX d.2.2).sum) l' hw∧cu s h.length (hb++[wdO W fl most odd]) hw)
  ⟨[],most,_,_,_,_,rfl,rfl,rfl,fun _ _ z=>by simp at z,m0,by simp,a0,cu.refl _ _ _⟩ (fun _ _ _ _ _=>rfl) ?_ ?_
 ·rintro i x δ h' hx ⟨dds,l',d5,d6,d7,hw,rfl,rfl,hdl,hdd,l'0,hc,a6,b6⟩
  obtain ⟨dn,hdn,rfl⟩:=gM hx
  have hi:i < W.deeds.length:=(List.getElem?_eq_some_iff.mp hdn).1
  obtain ⟨ps,hps⟩:∃f,W.params[i]?=some f:=⟨_,List.getElem?_eq_getElem (by rw [ok.pl];exact hi)⟩
  have d2:=ok.d2
  have C6:=C0.two a6 b6
  have hwl:hw.length=h.length+1:=by rw [b6.1,hobl]
  have hcl:clL (hw.length+1) (dds.map dg)=true:=cQ _ _ (p7 _) dds
  walk_at "run"
  obtain ⟨⟨d7,h7⟩,e7,hd7,S7,b7⟩:=bT (d:=.lv ([1,2,3,4,12].map D.int)) (a6.more [.lst (dds.map dg)]).S (by omega) (.inl rfl) (by simp) (by simp)
  obtain ⟨mo,rfl,hmo⟩:=cI (P:=fun i=>1≤i∧i≤12) hd7 (by decide)
  refine rv e7 ?_
  have a7:=(a6.more [.lst (dds.map dg)]).but S7 b7
  have C7:=(C6.snoc (o:=.lst (dds.map dg)) hcl).but S7 b7
  walk_at "run"
  obtain ⟨⟨_,h8⟩,e8,lot,l8,rfl,okl,hll,l80,cr,a8,b8⟩:=(ring ok (fun f=>vG ok) 20).1 h7 _ l' i ps 1 (-1) [] mo a7 C7 (by omega) l'0 hps hi (by omega) (by omega) (by omega) (by have:=ok.n1;omega) (fun _ z=>(nomatch z)) (by simp) hmo.1 hmo.2
  refine rv e8 ?_
  obtain ⟨hw8,rfl,b8'⟩:=(b7.two.trans b8).app a6.lt.1 a6.lt.2.2
  have lt6:=a6.lt
  have a8':=a8.cut (by rw [b8'.1];exact lt6.1) (by rw [b8'.1];exact lt6.2.1) (by rw [b8'.1];exact lt6.2.2)
  have hl8:hw8.length=h.length+1:=by rw [b8'.1,hwl]
  have hat:(hw8++[MO.lst (dds.map dg)])[h.length+1]?=some (.lst (dds.map dg)):=by rw [←hl8];simp
  walk_at "run"
  refine j6 ?_
  walk_at "run"
  refine ⟨cK hat,?_⟩
  walk_at "run"
  refine rv (cD a8.w) ?_
  walk_at "run"
  refine rv (bY hps) ?_
  walk_at "run"
  refine rv (a:=(.tup (ps.map D.str),_)) rfl ?_
  walk_at "run"
  refine rv (dm hat (by rw [List.length_map,show sizeLine=16777216 from rfl];omega)) ?_
  walk_at "run"
  have hcn:((dds++[(dn,ps,lot)]).map fun d:gU=>aX d.2.2).sum=(dds.map fun d:gU=>aX d.2.2).sum+aX lot:=by
   rw [List.map_append,List.sum_append]
   simp
  refine ⟨dds++[(dn,ps,lot)],l8,_,_,_,hw8,rfl,?_,by simp [hdl],?_,l80,by rw [hcn];push_cast;omega,by rw [hcn];exact a8'.up (by omega),b6.trans b8'⟩
  ·rw [←hl8,List.set_append_right _ _ (Nat.le_refl _),Nat.sub_self,List.map_append]
   rfl
  ·intro j d hj
   by_cases z:j < dds.length
   ·rw [List.getElem?_append_left z] at hj
    exact hdd j d hj
   ·rw [List.getElem?_append_right (by omega)] at hj
    have hj0:j-dds.length=0:=by
     have:=(List.getElem?_eq_some_iff.mp hj).1
     simp at this
     omega
    rw [hj0] at hj
    cases hj
    obtain rfl:j=i:=by omega
    exact ⟨hdn,hps,okl,hll⟩
 ·rintro δ h' ⟨dds,l',d5,d6,d7,hw,rfl,rfl,hdl,hdd,l'0,hc,a6,b6⟩
  rw [cg,List.length_map] at hdl a6
  have d2:=ok.d2
  have n2:=ok.n2
  have hwl:hw.length=h.length+1:=by rw [b6.1,hobl]
  have hat:(hw++[MO.lst (dds.map dg)])[h.length+1]?=some (.lst (dds.map dg)):=by rw [←hwl];simp
  rw [←hlen] at b6
  obtain ⟨hb',o',rfl,b9⟩:=b6.last lt1.1
  have hl':=b9.1
  have S9:Mi.St s c cs _ hb':=a6.S.cut (by omega) (by omega)
  walk_at "run"
  refine rv (cW (a6.more _).w) ?_
  walk_at "run"
  refine rv (a:=(.lv ((ff W.names).map D.str),_)) (by
   show (i8 (W.names.map D.str)).bind _=_
   rw [kB]
   show (if W.names.length < 64 then _ else _)=_
   rw [if_pos (by omega)]) ?_
  walk_at "run"
  refine rv (a:=(.tup ((ff W.names).map D.str),_)) rfl ?_
  walk_at "run"
  refine rv (a:=(.tup (dds.map dg),_)) (by simp only [cO,cH,hat,Option.map_some];rfl) ?_
  walk_at "run"
  rw [List.append_assoc]
  have bb:=b1.trans b9
  refine rv (fH bb.1 (C.but S9 bb) (fun n z=>(nomatch z)) ?_) ?_
  ·exact vg _ ⟨ff W.names,dds⟩
  ·exact ⟨W,fl,⟨ff W.names,dds⟩,rfl,ok,⟨rfl,hdl,hdd,by show _≤_;dsimp only;omega⟩,S9.up (by omega),bb⟩
end Mi
namespace Pg
open PySem Sm L2
def sM (l:List Row):D:=.tup (bj l)
def au:Row→List (List Row)
 | .say _=>[]
 | .call _ _=>[]
 | .within _ b=>[b]
 | .all _ b=>[b]
 | .ask _ b e=>[b,e]
 | .by_ _ _ a b c=>[a,b,c]
 | .either a b=>[a,b]
 | .again a=>[a]
def rK:Row→Str
 | .say _=>"say"
 | .call _ _=>"call"
 | .within _ _=>"within"
 | .all _ _=>"all"
 | .ask _ _ _=>"ask"
 | .by_ _ _ _ _ _=>"by"
 | .either _ _=>"either"
 | .again _=>"again"
mutual
def bR (p:List Nat):Row→List (List Nat×Row)
 | .say _=>[]
 | .call _ _=>[]
 | .within _ b=>aI (p++[0]) 0 b
 | .all _ b=>aI (p++[0]) 0 b
 | .ask _ b e=>aI (p++[0]) 0 b++aI (p++[1]) 0 e
 | .by_ _ _ a b c=>aI (p++[0]) 0 a++(aI (p++[1]) 0 b++aI (p++[2]) 0 c)
 | .either a b=>aI (p++[0]) 0 a++aI (p++[1]) 0 b
 | .again a=>aI (p++[0]) 0 a
def aI (a:List Nat) (k:Nat):List Row→List (List Nat×Row)
 | []=>[]
 | r::rs=>(a++[k],r)::(bR (a++[k]) r++aI a (k+1) rs)
end
def c7 (p:List Nat):Nat→List (List Row)→List (List Nat×Row)
 | _,[]=>[]
 | k,l::ls=>aI (p++[k]) 0 l++c7 p (k+1) ls
theorem qt (p:List Nat) (r:Row):bR p r=c7 p 0 (au r):=by
 cases r <;> simp [bR,au,c7]
theorem gn (a:List Nat):∀(k:Nat) (x y:List Row),aI a k (x++y)=aI a k x++aI a (k+x.length) y
 | k,[],y=>by simp [aI]
 | k,r::x,y=>by simp [aI,gn a (k+1) x y,Nat.add_comm,Nat.add_left_comm]
theorem ie (p:List Nat):∀(k:Nat) (x y:List (List Row)),c7 p k (x++y)=c7 p k x++c7 p (k+x.length) y
 | k,[],y=>by simp [c7]
 | k,r::x,y=>by simp [c7,ie p (k+1) x y,Nat.add_comm,Nat.add_left_comm]
mutual
def bq:Row→Nat
 | .say _=>0
 | .call _ _=>0
 | .within _ b=>bN b
 | .all _ b=>bN b
 | .ask _ b e=>max (bN b) (bN e)
 | .by_ _ _ a b c=>max (bN a) (max (bN b) (bN c))
 | .either a b=>max (bN a) (bN b)
 | .again a=>bN a
def bN:List Row→Nat
 | []=>1
 | r::rs=>max (1+bq r) (bN rs)
end
theorem ib {lot:List Row} {r:Row} (h:r∈lot):1+bq r≤bN lot:=by
 induction lot with
 | nil=>cases h
 | cons x xs ih=>
  rw [bN]
  rcases List.mem_cons.mp h with rfl | h
  ·omega
  ·have:=ih h;omega
theorem kM {r:Row} {l:List Row} (h:l∈au r):bN l≤bq r:=by
 cases r <;> simp [au] at h
 case within=>subst h;simp [bq]
 case all=>subst h;simp [bq]
 case ask=>rcases h with rfl | rfl <;> rw [bq] <;> omega
 case by_=>rcases h with rfl | rfl | rfl <;> rw [bq] <;> omega
 case either=>rcases h with rfl | rfl <;> rw [bq] <;> omega
 case again=>subst h;simp [bq]
mutual
theorem jo (p:List Nat):∀r:Row,1+(bR p r).length=cnt r
 | .say _=>by simp [bR,cnt]
 | .call _ _=>by simp [bR,cnt]
 | .within _ b=>by simp [bR,cnt,aT (p++[0]) 0 b]
 | .all _ b=>by simp [bR,cnt,aT (p++[0]) 0 b]
 | .ask _ b e=>by simp [bR,cnt,aT (p++[0]) 0 b,aT (p++[1]) 0 e];omega
 | .by_ _ _ a b c=>by simp [bR,cnt,aT (p++[0]) 0 a,aT (p++[1]) 0 b,aT (p++[2]) 0 c];omega
 | .either a b=>by simp [bR,cnt,aT (p++[0]) 0 a,aT (p++[1]) 0 b];omega
 | .again a=>by simp [bR,cnt,aT (p++[0]) 0 a]
theorem aT (a:List Nat):∀(k:Nat) (l:List Row),(aI a k l).length=aX l
 | k,[]=>by simp [aI,aX]
 | k,r::rs=>by
  have:=jo (a++[k]) r
  have:=aT a (k+1) rs
  simp [aI,aX];omega
end
mutual
theorem oT {W:Wd} {ps:List Str}:∀(n:Nat) (r:Row),br W ps n r→n≤5→bq r≤5-n
 | n,.say _,_,_=>by simp [bq]
 | n,.call _ _,_,_=>by simp [bq]
 | n,.within _ b,h,hn=>by rw [br] at h;have:=bt (n+1) b h.2.2.2 h.2.1;rw [bq];omega
 | n,.all _ b,h,hn=>by rw [br] at h;have:=bt (n+1) b h.2.2.2 h.2.1;rw [bq];omega
 | n,.ask _ b e,h,hn=>by rw [br] at h;have:=bt (n+1) b h.2.2.2.2.1 h.2.1;have:=bt (n+1) e h.2.2.2.2.2 h.2.1;rw [bq];omega
 | n,.by_ _ _ a b c,h,hn=>by
  rw [br] at h
  obtain ⟨_,_,h0,_,_,_,h1,h2,h3⟩:=h
  have:=bt (n+1) a h1 h0;have:=bt (n+1) b h2 h0;have:=bt (n+1) c h3 h0;rw [bq];omega
 | n,.either a b,h,hn=>by
  rw [br] at h
  obtain ⟨h0,_,_,h1,h2⟩:=h
  have:=bt (n+1) a h1 h0;have:=bt (n+1) b h2 h0;rw [bq];omega
 | n,.again a,h,hn=>by
  rw [br] at h
  obtain ⟨h0,_,h1⟩:=h
  have:=bt (n+1) a h1 h0;rw [bq];omega
theorem bt {W:Wd} {ps:List Str}:∀(n:Nat) (l:List Row),bx W ps n l→n≤5→bN l≤6-n
 | n,[],_,hn=>by simp [bN];omega
 | n,r::rs,h,hn=>by
  rw [bx] at h
  have:=oT n r h.1 hn
  have:=bt n rs h.2 hn
  rw [bN];omega
end
def nT (n:Nat):D:=.int (n:Int)
def fX (p:List Nat):D:=.tup (p.map nT)
def iD (x:List Nat×Row):D:=.tup [fX x.1,aL x.2]
end Pg
namespace Mi
open PySem Sm L2 Pg
theorem vh (n:Nat) (x:List Nat×Row):clD n (iD x)=true:=by
 show (clL n (x.1.map nT)&&(clD n (aL x.2)&&true))=true
 rw [cQ n _ (fun _=>rfl),dJ];rfl
theorem rf (h:MH):nr h h=true:=by
 induction h with
 | nil=>rfl
 | cons o r ih=>show (q9 o o&&nr r r)=true;rw [q5,ih];rfl
theorem kS {H:MH} {xs:List D} (hc:clL H.length xs=true):leave H (.ob H.length) (H++[.lst xs])=some (.lv xs,H):=by
 have h3:qh H.length (H++[.lst xs]) (.ob H.length)=.lv xs:=by
  show (if H.length < H.length then _ else _)=_
  rw [if_neg (Nat.lt_irrefl _)]
  simp
 unfold leave
 rw [h3,List.take_append_of_le_length (Nat.le_refl _),List.take_length,rf]
 show (if (clL H.length xs&&_)=true then _ else _)=_
 rw [hc];rfl
theorem mF (r:Row) (h:MH):dQ [aL r] h=some (.tup ((au r).map sM),h):=by
 have e:Rn (dQ [aL r] h) fun p=>p=(.tup ((au r).map sM),h):=by
  refine dA ?_
  cases r <;> rw [aL] <;> (walk_at "run";refine rv rfl ?_;walk_at "run";refine rv rfl ?_;dsimp only;refine ⟨_,rfl,?_⟩;walk_at "run";refine rv rfl ?_;rfl)
 obtain ⟨p,e1,rfl⟩:=e
 exact e1
theorem qP {xs ys:List D} {h:MH} (hl:xs.length+ys.length≤10000):aV (.tup xs) (.tup ys) h=some (.tup (xs++ys),h):=by
 cases xs with
 | nil=>rfl
 | cons x xs=>
  show (if xs.length+1+ys.length≤sizeLine then some (D.tup (x::xs++ys),h) else none)=_
  rw [if_pos (by rw [show sizeLine=16777216 from rfl];rw [List.length_cons] at hl;omega)]
end Mi
namespace Mi
open PySem Sm L2 Pg
theorem gr {h:MH} {n:Nat} {xs ys:List D} (e:h[n]?=some (.lst xs)) (hl:xs.length+ys.length≤1000000):eg (.ob n) [.lv ys] h=some (.non,h.set n (.lst (xs++ys))):=by
 unfold eg
 dsimp only
 rw [e]
 show (if xs.length+ys.length≤sizeLine then _ else _)=_
 rw [if_pos (by rw [show sizeLine=16777216 from rfl];omega)]
theorem jb {H:MH} {o o':MO}:(H++[o]).set H.length o'=H++[o']:=by
 rw [List.set_append_right _ _ (Nat.le_refl _),Nat.sub_self];rfl
theorem eF {H:MH} {o:MO}:(H++[o])[H.length]?=some o:=by simp
theorem lg (a:List Nat) (i:Nat) (hl:a.length≤1000) (h:MH):aV (fX a) (.tup [.int (i:Int)]) h=some (fX (a++[i]),h):=by
 show aV (.tup (a.map nT)) (.tup [nT i]) _=_
 rw [qP (by rw [List.length_map];simp;omega)]
 simp [fX]
theorem jr:∀(n:Nat) (lot:List Row) (ahead:List Nat) (h:MH),bN lot≤n→aX lot≤1000→ahead.length+2*n≤100→cj n [.tup (bj lot),fX ahead] h=some (.lv ((aI ahead 0 lot).map iD),h)
 | 0,lot,ahead,h,hn,hc,ha=>by
  exfalso
  cases lot with
  | nil=>simp [bN] at hn
  | cons r rs=>rw [bN] at hn;omega
 | n+1,lot,ahead,h,hn,hc,ha=>by
  have e:Rn (cj (n+1) [.tup (bj lot),fX ahead] h) fun p=>p=(.lv ((aI ahead 0 lot).map iD),h):=by
   unfold cj
   refine kH ?_
   walk_at "run"
   refine gF ?_
   walk_at "run"
   refine ⟨_,_,_,rfl,rfl,?_⟩
   rw [cJ]
   refine dI (fun i δ h'=>∃(d3 d4 d5 d6 d7:Option D),δ=[some (.tup (lot.map aL)),some (fX ahead),some (.ob h.length),d3,d4,d5,d6,d7]∧h'=h++[.lst ((aI ahead 0 (lot.take i)).map iD)])
    ⟨_,_,_,_,_,rfl,by simp [aI]⟩ (fun _ _ _ _ _=>rfl) ?_ ?_
   ·rintro i x δ h' hx ⟨d3,d4,d5,d6,d7,rfl,rfl⟩
    obtain ⟨r,hr,rfl⟩:=gM hx
    have hrm:=List.mem_of_getElem? hr
    have hi:i < lot.length:=(List.getElem?_eq_some_iff.mp hr).1
    have htk:lot.take (i+1)=lot.take i++[r]:=by
     rw [List.take_succ,hr];rfl
    have hpl:aI ahead 0 (lot.take (i+1))=aI ahead 0 (lot.take i)++((ahead++[i],r)::c7 (ahead++[i]) 0 (au r)):=by
     rw [htk,gn]
     simp only [aI,qt,List.length_take,List.append_nil,Nat.zero_add]
     rw [Nat.min_eq_left (by omega)]
    have hlen:(aI ahead 0 lot).length≤1000:=by rw [aT];exact hc
    have hsub:(aI ahead 0 (lot.take (i+1))).length≤1000:=by
     have:aI ahead 0 lot=aI ahead 0 (lot.take (i+1))++aI ahead (0+(lot.take (i+1)).length) (lot.drop (i+1)):=by
      rw [←gn,List.take_append_drop]
     rw [this,List.length_append] at hlen
     omega
    generalize aI ahead 0 (lot.take i)=F0 at hpl ⊢
    walk_at "run"
    refine rv (lg ahead i (by omega) _) ?_
    walk_at "run"
    rw [hpl,List.length_append,List.length_cons] at hsub
    refine j6 ?_
    walk_at "run"
    refine ⟨cK eF,?_⟩
    walk_at "run"
    refine rv (dm eF (by rw [List.length_map,show sizeLine=16777216 from rfl];omega)) ?_
    walk_at "run"
    rw [jb]
    refine gF ?_
    walk_at "run"
    refine rv (mF r _) ?_
    walk_at "run"
    refine ⟨_,_,_,rfl,rfl,?_⟩
    refine dI (fun j δ h'=>∃(d6 d7:Option D),δ=[some (.tup (lot.map aL)),some (fX ahead),some (.ob h.length),some (.int i),some (aL r),some (fX (ahead++[i])),d6,d7]∧h'=h++[.lst ((F0++((ahead++[i],r)::c7 (ahead++[i]) 0 ((au r).take j))).map iD)])
     ⟨_,_,rfl,by simp [c7,iD]⟩ (fun _ _ _ _ _=>rfl) ?_ ?_
    ·rintro j x δ h' hx ⟨d6,d7,rfl,rfl⟩
     obtain ⟨l,hl,rfl⟩:=gM hx
     have hlm:=List.mem_of_getElem? hl
     have hj:j < (au r).length:=(List.getElem?_eq_some_iff.mp hl).1
     have htk:(au r).take (j+1)=(au r).take j++[l]:=by
      rw [List.take_succ,hl];rfl
     have hpj:c7 (ahead++[i]) 0 ((au r).take (j+1))=c7 (ahead++[i]) 0 ((au r).take j)++aI (ahead++[i]++[j]) 0 l:=by
      rw [htk,ie]
      simp only [c7,List.length_take,List.append_nil,Nat.zero_add]
      rw [Nat.min_eq_left (by omega)]
     have hsub2:(c7 (ahead++[i]) 0 ((au r).take (j+1))).length≤(c7 (ahead++[i]) 0 (au r)).length:=by
      have:c7 (ahead++[i]) 0 (au r)=c7 (ahead++[i]) 0 ((au r).take (j+1))++c7 (ahead++[i]) (0+((au r).take (j+1)).length) ((au r).drop (j+1)):=by
       rw [←ie,List.take_append_drop]
      rw [this,List.length_append]
      omega
     rw [hpj,List.length_append] at hsub2
     have ih:=fun hh=>jr n l (ahead++[i]++[j]) hh (by have:=ib hrm;have:=kM hlm;omega) (by rw [←aT (ahead++[i]++[j]) 0];omega) (by simp;omega)
     walk_at "run"
     refine j6 ?_
     walk_at "run"
     refine ⟨cK eF,?_⟩
     walk_at "run"
     refine rv (lg (ahead++[i]) j (by simp;omega) _) ?_
     walk_at "run"
     refine rv (ih _) ?_
     walk_at "run"
     refine rv (gr eF (by rw [List.length_map,List.length_map,List.length_append,List.length_cons];omega)) ?_
     walk_at "run"
     rw [jb,←List.map_append]
     refine ⟨_,_,rfl,?_⟩
     rw [hpj]
     simp
    ·rintro δ h' ⟨d6,d7,rfl,rfl⟩
     rw [cg,List.length_map,List.take_length]
     walk_at "run"
     exact ⟨_,_,_,_,_,rfl,by rw [hpl]⟩
   ·rintro δ h' ⟨d3,d4,d5,d6,d7,rfl,rfl⟩
    rw [cg,List.length_map,List.take_length]
    walk_at "run"
    exact rv (kS (cQ _ _ (vh _) _)) rfl
  obtain ⟨p,e1,rfl⟩:=e
  exact e1
end Mi
namespace Pg
open PySem Sm L2
def placesFrom:Nat→List gU→List (Nat×List Nat×Row)
 | _,[]=>[]
 | k,d::ds=>(aI [] 0 d.2.2).map (fun x=>(k,x.1,x.2))++placesFrom (k+1) ds
def gp (x:Nat×List Nat×Row):D:=.tup [nT x.1,fX x.2.1,aL x.2.2]
def rowAt (x:Nat×List Nat×Row):D:=.tup [nT x.1,aL x.2.2]
theorem cA:∀(k:Nat) (x y:List gU),placesFrom k (x++y)=placesFrom k x++placesFrom (k+x.length) y
 | k,[],y=>by simp [placesFrom]
 | k,d::x,y=>by simp [placesFrom,cA (k+1) x y,Nat.add_comm,Nat.add_left_comm]
theorem cz:∀(k:Nat) (ds:List gU),(placesFrom k ds).length=(ds.map fun d=>aX d.2.2).sum
 | _,[]=>rfl
 | k,d::ds=>by simp [placesFrom,cz (k+1) ds,aT]
theorem pL:∀{ds:List gU} {d:gU},d∈ds→aX d.2.2≤(ds.map fun d=>aX d.2.2).sum
 | x::r,d,h=>by
  rw [List.map_cons,List.sum_cons]
  rcases List.mem_cons.mp h with rfl | h
  ·omega
  ·have:=pL h;omega
structure Fit (P:Prog):Prop where
 nd:∀d∈P.deeds,bN d.2.2≤6
 ct:(P.deeds.map fun d=>aX d.2.2).sum≤1000
 dl:P.deeds.length≤1000
theorem OkP.fit {W:Wd} {m:Nat} {P:Prog} (o:OkP W m P) (hm:m≤1000) (hd:W.deeds.length≤6):Fit P:=by
 refine ⟨fun d hd=>?_,Nat.le_trans o.ct hm,by rw [o.dl];omega⟩
 obtain ⟨j,hj⟩:=List.mem_iff_getElem?.mp hd
 obtain ⟨_,_,ok,_⟩:=o.dd j d hj
 have:=bt 1 d.2.2 ok (by omega)
 omega
end Pg
namespace Mi
open PySem Sm L2 Pg
theorem tK (n:Nat) (x:Nat×List Nat×Row):clD n (gp x)=true:=by
 show (true&&(clL n (x.2.1.map nT)&&(clD n (aL x.2.2)&&true)))=true
 rw [cQ n _ (fun _=>rfl),dJ];rfl
theorem mR {α:Type} {ws:W} {g:GM} {e:EM} {h:MH} (hc:chk ws h=true) (f k:α→D) (J:DS→Prop) (xs:List α) {δ:DS} (h0:J δ) (ht:∀x∈xs,∀δ,J δ→Rn (g (f x) δ h) fun q=>q.2=h∧J q.1∧Rn (e q.1 h) fun p=>p=(k x,h)):
  cm ws g fk e (xs.map f) δ h=some (xs.map k,h):=by
 induction xs generalizing δ with
 | nil=>rw [List.map_nil];unfold cm;rw [if_pos hc];rfl
 | cons x r ih=>
  rw [List.map_cons]
  unfold cm
  rw [if_pos hc]
  obtain ⟨⟨δ1,h1⟩,e1,rfl,J1,p,e2,rfl⟩:=ht x List.mem_cons_self δ h0
  rw [e1]
  dsimp only [Option.bind_some] at e2 ⊢
  show ((some (true,h1)).bind _)=_
  dsimp only [Option.bind_some]
  rw [if_pos rfl,e2]
  dsimp only [Option.bind_some]
  rw [ih J1 fun y hy=>ht y (List.mem_cons_of_mem _ hy)]
  rfl
theorem nN {P:Prog} (fit:Fit P) (h:MH):cT [gG P] h=some (.lv ((placesFrom 0 P.deeds).map gp),h):=by
 have e:Rn (cT [gG P] h) fun p=>p=(.lv ((placesFrom 0 P.deeds).map gp),h):=by
  refine kH ?_
  walk_at "run"
  refine gF ?_
  walk_at "run"
  refine rv (a:=(.tup (P.deeds.map dg),_)) rfl ?_
  walk_at "run"
  refine ⟨_,_,_,rfl,rfl,?_⟩
  refine dI (fun i δ h'=>∃(d2 d3 d4 d5:Option D),δ=[some (gG P),some (.ob h.length),d2,d3,d4,d5]∧h'=h++[.lst ((placesFrom 0 (P.deeds.take i)).map gp)])
   ⟨_,_,_,_,rfl,by simp [placesFrom]⟩ (fun _ _ _ _ _=>rfl) ?_ ?_
  ·rintro i x δ h' hx ⟨d2,d3,d4,d5,rfl,rfl⟩
   obtain ⟨d,hd,rfl⟩:=gM hx
   have hdm:=List.mem_of_getElem? hd
   have hi:i < P.deeds.length:=(List.getElem?_eq_some_iff.mp hd).1
   have htk:P.deeds.take (i+1)=P.deeds.take i++[d]:=by rw [List.take_succ,hd];rfl
   have hpl:placesFrom 0 (P.deeds.take (i+1))=placesFrom 0 (P.deeds.take i)++(aI [] 0 d.2.2).map fun x=>(i,x.1,x.2):=by
    rw [htk,cA]
    simp only [placesFrom,List.length_take,List.append_nil,Nat.zero_add]
    rw [Nat.min_eq_left (by omega)]
   have hc:=pL hdm
   have ct:=fit.ct
   have hlen:(placesFrom 0 P.deeds).length≤1000:=by rw [cz];exact ct
   have hsub:(placesFrom 0 (P.deeds.take (i+1))).length≤1000:=by
    have:placesFrom 0 P.deeds=placesFrom 0 (P.deeds.take (i+1))++placesFrom (0+(P.deeds.take (i+1)).length) (P.deeds.drop (i+1)):=by
     rw [←cA,List.take_append_drop]
    rw [this,List.length_append] at hlen
    omega
   rw [hpl,List.length_append,List.length_map] at hsub
   unfold dg
   walk_at "run"
   refine j6 ?_
   walk_at "run"
   refine ⟨cK eF,?_⟩
   walk_at "run"
   refine eA ?_
   walk_at "run"
   refine rv (jr 10 d.2.2 [] _ (Nat.le_trans (fit.nd d hdm) (by decide)) (by omega) (by simp)) ?_
   refine ⟨_,_,rfl,?_⟩
   refine rv (mR rfl iD (fun x=>gp (i,x.1,x.2)) (fun δ=>∃a b,δ=[a,b,some (.int i)]) (aI [] 0 d.2.2) ⟨_,_,rfl⟩ ?_) ⟨?_,?_⟩
   ·rintro x hx δ ⟨a,b,rfl⟩
    unfold iD
    walk_at "run"
    refine ⟨rfl,⟨_,_,rfl⟩,?_⟩
    walk_at "run"
    rfl
   ·dsimp only
    rw [List.length_map,show sizeLine=16777216 from rfl]
    omega
   ·walk_at "run"
    refine rv (gr eF (by rw [List.length_map,List.length_map];omega)) ?_
    walk_at "run"
    rw [jb]
    refine ⟨_,_,_,_,rfl,?_⟩
    rw [hpl,List.map_append,List.map_map]
    rfl
  ·rintro δ h' ⟨d2,d3,d4,d5,rfl,rfl⟩
   rw [cg,List.length_map,List.take_length]
   walk_at "run"
   exact rv (kS (cQ _ _ (tK _) _)) rfl
 obtain ⟨p,e1,rfl⟩:=e
 exact e1
theorem kE {P:Prog} (fit:Fit P) (h:MH):dq [gG P] h=some (.tup ((placesFrom 0 P.deeds).map rowAt),h):=by
 have e:Rn (dq [gG P] h) fun p=>p=(.tup ((placesFrom 0 P.deeds).map rowAt),h):=by
  refine dA ?_
  walk_at "run"
  refine eA ?_
  walk_at "run"
  refine rv (nN fit h) ?_
  refine ⟨_,_,rfl,?_⟩
  refine rv (mR rfl gp rowAt (fun δ=>∃a b c,δ=[a,b,c]) (placesFrom 0 P.deeds) ⟨_,_,_,rfl⟩ ?_) ⟨?_,?_⟩
  ·rintro x hx δ ⟨a,b,c,rfl⟩
   unfold gp
   walk_at "run"
   refine ⟨rfl,⟨_,_,_,rfl⟩,?_⟩
   walk_at "run"
   rfl
  ·dsimp only
   rw [List.length_map,cz,show sizeLine=16777216 from rfl]
   have:=fit.ct
   omega
  ·walk_at "run"
   refine rv (a:=(.tup ((placesFrom 0 P.deeds).map rowAt),h)) rfl ?_
   walk_at "run"
 obtain ⟨p,e1,rfl⟩:=e
 exact e1
end Mi
namespace Pg
open PySem Sm L2
def plain:Nat→D→Prop
 | 0,_=>False
 | n+1,.tup xs=>xs.length≤100000∧∀x∈xs,plain n x
 | _+1,.str _=>True
 | _+1,.int _=>True
 | _+1,.non=>True
 | _+1,.bl _=>True
 | _+1,_=>False
theorem bh:∀{n m:Nat} {d:D},plain n d→n≤m→plain m d
 | 0,_,_,h,_=>h.elim
 | n+1,0,_,_,hm=>absurd hm (by omega)
 | n+1,m+1,.tup xs,h,hm=>⟨h.1,fun x hx=>bh (h.2 x hx) (by omega)⟩
 | n+1,m+1,.str _,h,hm=>trivial
 | n+1,m+1,.int _,h,hm=>trivial
 | n+1,m+1,.non,h,hm=>trivial
 | n+1,m+1,.bl _,h,hm=>trivial
 | n+1,m+1,.lv _,h,hm=>h.elim
 | n+1,m+1,.ro _,h,hm=>h.elim
 | n+1,m+1,.dv _,h,hm=>h.elim
 | n+1,m+1,.ob _,h,hm=>h.elim
 | n+1,m+1,.ty _,h,hm=>h.elim
theorem ia {α:Type} {n:Nat} {f:α→D} {xs:List α} (hl:xs.length≤100000) (h:∀x∈xs,plain n (f x)):plain (n+1) (.tup (xs.map f)):=
 ⟨by rw [List.length_map];exact hl,fun y hy=>by obtain ⟨x,hx,rfl⟩:=List.mem_map.mp hy;exact h x hx⟩
theorem eW (t:Term):plain 2 (bp t):=⟨by simp,fun x hx=>by
 simp at hx
 rcases hx with rfl | rfl <;> trivial⟩
theorem gm (t:Lock):plain 3 (aM t):=⟨by simp,fun x hx=>by
 simp at hx
 rcases hx with rfl | rfl
 ·trivial
 ·exact eW _⟩
mutual
def aW:Row→Prop
 | .say _=>True
 | .call _ ts=>ts.length≤100000
 | .within _ b=>bP b
 | .all ls b=>ls.length≤100000∧bP b
 | .ask _ b e=>bP b∧bP e
 | .by_ _ _ a b c=>bP a∧bP b∧bP c
 | .either a b=>bP a∧bP b
 | .again a=>bP a
def bP:List Row→Prop
 | []=>True
 | r::rs=>rs.length < 100000∧aW r∧bP rs
end
theorem aE {n:Nat} {d:D} {xs:List D} (h:plain n d) (h2:plain (n+1) (.tup xs)) (hl:xs.length < 100000):plain (n+1) (.tup (d::xs)):=
 ⟨by simp;omega,fun x hx=>by
  rcases List.mem_cons.mp hx with rfl | hx
  ·exact h
  ·exact h2.2 x hx⟩
theorem cY {n:Nat}:plain (n+1) (.tup []):=⟨by simp,fun x hx=>by cases hx⟩
mutual
theorem hY:∀r:Row,aW r→plain (2*bq r+5) (aL r)
 | .say _,_=>by rw [aL];exact aE trivial (aE trivial cY (by simp)) (by simp)
 | .call _ ts,h=>by
  rw [aL]
  rw [aW] at h
  exact aE trivial (aE trivial (aE (ia h fun t _=>bh (eW t) (by omega)) cY (by simp)) (by simp)) (by simp)
 | .within l b,h=>by
  rw [aL]
  rw [aW] at h
  rw [bq]
  exact aE trivial (aE (bh (gm l) (by omega)) (aE (bW b h) cY (by simp)) (by simp)) (by simp)
 | .all ls b,h=>by
  rw [aL]
  rw [aW] at h
  rw [bq]
  have h3:plain (2*bN b+3+1) (.tup (ls.map aM)):=ia h.1 fun t _=>bh (gm t) (by omega)
  exact aE trivial (aE h3 (aE (bW b h.2) cY (by simp)) (by simp)) (by simp)
 | .ask l b e,h=>by
  rw [aL]
  rw [aW] at h
  rw [bq]
  exact aE trivial (aE (bh (gm l) (by omega)) (aE (bh (bW b h.1) (by omega)) (aE (bh (bW e h.2) (by omega)) cY (by simp)) (by simp)) (by simp)) (by simp)
 | .by_ s t a b c,h=>by
  rw [aL]
  rw [aW] at h
  rw [bq]
  exact aE trivial (aE (bh (eW s) (by omega)) (aE (bh (eW t) (by omega)) (aE (bh (bW a h.1) (by omega)) (aE (bh (bW b h.2.1) (by omega)) (aE (bh (bW c h.2.2) (by omega)) cY (by simp)) (by simp)) (by simp)) (by simp)) (by simp)) (by simp)
 | .either a b,h=>by
  rw [aL]
  rw [aW] at h
  rw [bq]
  exact aE trivial (aE (bh (bW a h.1) (by omega)) (aE (bh (bW b h.2) (by omega)) cY (by simp)) (by simp)) (by simp)
 | .again a,h=>by
  rw [aL]
  rw [aW] at h
  rw [bq]
  exact aE trivial (aE (bW a h) cY (by simp)) (by simp)
theorem bW:∀l:List Row,bP l→plain (2*bN l+4) (.tup (bj l))
 | [],_=>by rw [bj];exact cY
 | r::rs,h=>by
  rw [bj]
  rw [bP] at h
  rw [bN]
  refine aE (n:=2*max (1+bq r) (bN rs)+3) (bh (hY r h.2.1) (by omega)) (bh (bW rs h.2.2) (by omega)) (by rw [cJ,List.length_map];exact h.1)
end
mutual
theorem nQ {W:Wd} {ps:List Str} (hp:∀qs∈W.params,qs.length≤3):∀(n:Nat) (r:Row),br W ps n r→aW r
 | n,.say _,_=>by rw [aW];trivial
 | n,.call _ ts,h=>by
  rw [br] at h
  obtain ⟨⟨j,qs,_,h2,h3⟩,_⟩:=h
  have:=hp qs (List.mem_of_getElem? h2)
  rw [aW];omega
 | n,.within _ b,h=>by rw [br] at h;rw [aW];exact a9 hp (n+1) b h.2.2.2 h.2.2.1
 | n,.all ls b,h=>by rw [br] at h;rw [aW];exact ⟨by have:=h.1.2.1;omega,a9 hp (n+1) b h.2.2.2 h.2.2.1⟩
 | n,.ask _ b e,h=>by rw [br] at h;rw [aW];exact ⟨a9 hp (n+1) b h.2.2.2.2.1 h.2.2.1,a9 hp (n+1) e h.2.2.2.2.2 h.2.2.2.1⟩
 | n,.by_ _ _ a b c,h=>by
  rw [br] at h
  obtain ⟨_,_,h0,l1,l2,l3,h1,h2,h3⟩:=h
  rw [aW];exact ⟨a9 hp (n+1) a h1 l1,a9 hp (n+1) b h2 l2,a9 hp (n+1) c h3 l3⟩
 | n,.either a b,h=>by
  rw [br] at h
  obtain ⟨h0,l1,l2,h1,h2⟩:=h
  rw [aW];exact ⟨a9 hp (n+1) a h1 l1,a9 hp (n+1) b h2 l2⟩
 | n,.again a,h=>by
  rw [br] at h
  obtain ⟨h0,l1,h1⟩:=h
  rw [aW];exact a9 hp (n+1) a h1 l1
theorem a9 {W:Wd} {ps:List Str} (hp:∀qs∈W.params,qs.length≤3):∀(n:Nat) (l:List Row),bx W ps n l→l.length≤12→bP l
 | n,[],_,_=>by rw [bP];trivial
 | n,r::rs,h,hl=>by
  rw [bx] at h
  rw [bP]
  rw [List.length_cons] at hl
  exact ⟨by omega,nQ hp n r h.1,a9 hp n rs h.2 (by omega)⟩
end
end Pg
namespace Mi
open PySem Sm L2 Pg
theorem km:∀xs:List D,gW xs xs=xs.map fun x=>.tup [x,x]
 | []=>rfl
 | x::r=>by rw [List.map_cons,←km r];rfl
theorem ou {α:Type}:∀xs:List α,q4 (xs.map fun _=>D.bl true)=some (xs.map fun _=>true)
 | []=>rfl
 | x::r=>by rw [List.map_cons];show (q4 (r.map _)).map _=_;rw [ou r];rfl
theorem sZ {α:Type} (xs:List α) (h:MH):xI [.lv (xs.map fun _=>D.bl true)] h=some (.bl true,h):=by
 show (q4 (xs.map fun _=>D.bl true)).map _=_
 rw [ou]
 simp
theorem same_refl:∀(n:Nat) (d:D) (h:MH),plain n d→bA n [d,d] h=some (.bl true,h)
 | 0,_,_,hp=>hp.elim
 | n+1,d,h,hp=>by
  have e:Rn (bA (n+1) [d,d] h) fun p=>p=(.bl true,h):=by
   unfold bA
   refine dA ?_
   cases d with
   | tup xs=>
    walk_at "run"
    refine rv rfl ⟨true,rfl,fun _=>?_,fun z=>(nomatch z)⟩
    walk_at "run"
    refine rv rfl ⟨true,rfl,fun z=>(nomatch z),fun _=>?_⟩
    walk_at "run"
    refine ⟨false,by simp,fun z=>(nomatch z),fun _=>?_⟩
    walk_at "run"
    refine wk ?_
    walk_at "run"
    refine ⟨_,_,_,_,_,_,rfl,rfl,rfl,?_⟩
    rw [km]
    refine rv (mR rfl (fun x=>.tup [x,x]) (fun _=>.bl true) (fun δ=>∃a b,δ=[a,b]) xs ⟨_,_,rfl⟩ ?_) ⟨?_,?_⟩
    ·rintro x hx δ ⟨a,b,rfl⟩
     walk_at "run"
     refine ⟨rfl,⟨_,_,rfl⟩,?_⟩
     walk_at "run"
     exact rv (same_refl n x h (hp.2 x hx)) rfl
    ·dsimp only
     rw [List.length_map,show sizeLine=16777216 from rfl]
     have:=hp.1
     omega
    ·walk_at "run"
     refine rv (sZ xs h) ?_
     walk_at "run"
   | str x=>
    walk_at "run"
    refine rv rfl ⟨false,rfl,fun z=>(nomatch z),fun _=>?_⟩
    walk_at "run"
    refine rv rfl ⟨false,rfl,fun z=>(nomatch z),fun _=>?_⟩
    walk_at "run"
    refine rv rfl ⟨true,rfl,fun _=>?_,fun z=>(nomatch z)⟩
    walk_at "run"
    refine rv rfl ⟨true,rfl,fun _=>?_,fun z=>(nomatch z)⟩
    walk_at "run"
    simp
   | int x=>
    walk_at "run"
    refine rv rfl ⟨false,rfl,fun z=>(nomatch z),fun _=>?_⟩
    walk_at "run"
    refine rv rfl ⟨false,rfl,fun z=>(nomatch z),fun _=>?_⟩
    walk_at "run"
    refine rv rfl ⟨false,rfl,fun z=>(nomatch z),fun _=>?_⟩
    walk_at "run"
    refine rv rfl ⟨false,rfl,fun z=>(nomatch z),fun _=>?_⟩
    walk_at "run"
    refine rv rfl ⟨true,rfl,fun _=>?_,fun z=>(nomatch z)⟩
    walk_at "run"
    refine rv rfl ⟨false,rfl,⟨_,rfl,fun _=>?_,fun z=>(nomatch z)⟩⟩
    walk_at "run"
    simp
   | non=>
    walk_at "run"
    refine rv rfl ⟨false,rfl,fun z=>(nomatch z),fun _=>?_⟩
    walk_at "run"
    refine rv rfl ⟨true,rfl,fun _=>?_,fun z=>(nomatch z)⟩
    walk_at "run"
    exact rv rfl rfl
   | bl x=>
    walk_at "run"
    refine rv rfl ⟨false,rfl,fun z=>(nomatch z),fun _=>?_⟩
    walk_at "run"
    refine rv rfl ⟨false,rfl,fun z=>(nomatch z),fun _=>?_⟩
    walk_at "run"
    refine rv rfl ⟨false,rfl,fun z=>(nomatch z),fun _=>?_⟩
    walk_at "run"
    refine rv rfl ⟨true,rfl,fun _=>?_,fun z=>(nomatch z)⟩
    walk_at "run"
    refine rv rfl ⟨true,rfl,fun _=>?_,fun z=>(nomatch z)⟩
    walk_at "run"
    refine rv (vc x x h) ?_
    walk_at "run"
    simp
   | lv _=>exact hp.elim
   | ro _=>exact hp.elim
   | dv _=>exact hp.elim
   | ob _=>exact hp.elim
   | ty _=>exact hp.elim
  obtain ⟨p,e1,rfl⟩:=e
  exact e1
end Mi
namespace Sm
open PySem
theorem md {c:TM} {b:SM} {Q:SQ} (I:Nat→DS→MH→Prop) (step:∀k δ h,I k δ h→Rn (c δ h) fun p=>(p.1=true→Rn (b δ p.2) (kQ (fun δ h=>∃k',k' < k∧I k' δ h) Q))∧(p.1=false→Q (.nx,δ,p.2))):
  ∀(n k:Nat) (δ:DS) (h:MH),k < n→I k δ h→Rn (ej c b n δ h) Q
 | 0,k,δ,h,hk,_=>absurd hk (by omega)
 | n+1,k,δ,h,hk,hI=>by
  obtain ⟨p,e1,q1,q2⟩:=step k δ h hI
  unfold ej
  rw [e1]
  dsimp only [Option.bind_some]
  by_cases z:p.1=true
  ·rw [if_pos z]
   obtain ⟨⟨f,δ',h'⟩,e2,q⟩:=q1 z
   rw [e2]
   dsimp only [Option.bind_some]
   cases f with
   | nx=>obtain ⟨k',hk',hI'⟩:=q;exact md I step n k' δ' h' (by omega) hI'
   | ct=>obtain ⟨k',hk',hI'⟩:=q;exact md I step n k' δ' h' (by omega) hI'
   | bk=>exact ⟨_,rfl,q⟩
   | rt d=>exact ⟨_,rfl,q⟩
  ·rw [if_neg z]
   exact ⟨_,rfl,q2 (by simpa using z)⟩
end Sm
namespace Mi
open PySem Sm L2 Pg
def kU:List (Key×D):=[(.inr (Str.ofString "say"),.int 2),(.inr (Str.ofString "call"),.int 3),(.inr (Str.ofString "within"),.int 2),(.inr (Str.ofString "all"),.int 2),(.inr (Str.ofString "ask"),.int 2),(.inr (Str.ofString "by"),.int 3),(.inr (Str.ofString "either"),.int 1),(.inr (Str.ofString "again"),.int 1)]
def t6:Row→Int
 | .say _=>2
 | .call _ _=>3
 | .within _ _=>2
 | .all _ _=>2
 | .ask _ _ _=>2
 | .by_ _ _ _ _ _=>3
 | .either _ _=>1
 | .again _=>1
theorem rT (r:Row) (h:MH):fIx (aL r) (.int 0) h=some (.str (rK r),h):=by cases r <;> rw [aL] <;> rfl
theorem rV (r:Row) (h:MH):o8 (aL r) (some (t6 r)) none h=some (.tup ((au r).map sM),h):=by cases r <;> rw [aL] <;> rfl
theorem qm (r:Row) (h:MH):fIx (.dv kU) (.str (rK r)) h=some (.int (t6 r),h):=by cases r <;> kernel_rfl
theorem vd (δ:DS) (h:MH):tw (bM (eK (.str "say")) (eK (.int 2)) (bM (eK (.str "call")) (eK (.int 3)) (bM (eK (.str "within")) (eK (.int 2)) (bM (eK (.str "all")) (eK (.int 2)) (bM (eK (.str "ask")) (eK (.int 2)) (bM (eK (.str "by")) (eK (.int 3)) (bM (eK (.str "either")) (eK (.int 1)) (bM (eK (.str "again")) (eK (.int 1)) sC)))))))) δ h=some (.dv kU,h):=by kernel_rfl
theorem kc (r:Row) (h:MH):cC [aL r] h=some (.tup ((au r).map sM),h):=by
 have e:Rn (cC [aL r] h) fun p=>p=(.tup ((au r).map sM),h):=by
  refine dA ?_
  walk_at "run"
  refine rv (vd _ _) ?_
  walk_at "run"
  refine rv (rT r h) ?_
  walk_at "run"
  refine rv (qm r h) ?_
  walk_at "run"
  refine ⟨_,rfl,?_⟩
  walk_at "run"
  refine rv (rV r h) ?_
  walk_at "run"
 obtain ⟨p,e1,rfl⟩:=e
 exact e1
end Mi
namespace Pg
open PySem Sm L2
mutual
def cL:Row→List Row
 | .say _=>[]
 | .call _ _=>[]
 | .within _ b=>bF b
 | .all _ b=>bF b
 | .ask _ b e=>bF b++bF e
 | .by_ _ _ a b c=>bF a++(bF b++bF c)
 | .either a b=>bF a++bF b
 | .again a=>bF a
def bF:List Row→List Row
 | []=>[]
 | r::rs=>r::(cL r++bF rs)
end
mutual
theorem iC (p:List Nat):∀r:Row,(bR p r).map (·.2)=cL r
 | .say _=>by simp [bR,cL]
 | .call _ _=>by simp [bR,cL]
 | .within _ b=>by simp only [bR,cL,bw]
 | .all _ b=>by simp only [bR,cL,bw]
 | .ask _ b e=>by simp only [bR,cL,List.map_append,bw]
 | .by_ _ _ a b c=>by simp only [bR,cL,List.map_append,bw]
 | .either a b=>by simp only [bR,cL,List.map_append,bw]
 | .again a=>by simp only [bR,cL,bw]
theorem bw (a:List Nat):∀(k:Nat) (l:List Row),(aI a k l).map (·.2)=bF l
 | k,[]=>by simp [aI,bF]
 | k,r::rs=>by simp only [aI,bF,List.map_cons,List.map_append,iC (a++[k]) r,bw a (k+1) rs]
end
theorem ik:∀x y:List Row,bF (x++y)=bF x++bF y
 | [],y=>by simp [bF]
 | r::x,y=>by simp [bF,ik x y]
theorem jB (r:Row):cL r=bF (au r).flatten:=by
 cases r <;> simp [cL,au,bF,ik]
theorem iq (l:List Row):aX l=(bF l).length:=by rw [←bw [] 0 l,List.length_map,aT]
theorem n5 (r:Row):aX (au r).flatten+1=cnt r:=by
 rw [iq,←jB,←iC [],List.length_map,←jo []];omega
theorem gd:∀{l:List Row},bP l→∀{r},r∈l→aW r
 | x::rs,h,r,hr=>by
  rw [bP] at h
  rcases List.mem_cons.mp hr with rfl | hr
  ·exact h.2.1
  ·exact gd h.2.2 hr
theorem oE {r:Row} (h:aW r) {l:List Row} (hl:l∈au r) {x:Row} (hx:x∈l):aW x:=by
 refine gd ?_ hx
 cases r <;> rw [aW] at h <;> simp [au] at hl
 case within=>subst hl;exact h
 case all=>subst hl;exact h.2
 case ask=>rcases hl with rfl | rfl;exact h.1;exact h.2
 case by_=>rcases hl with rfl | rfl | rfl;exact h.1;exact h.2.1;exact h.2.2
 case either=>rcases hl with rfl | rfl;exact h.1;exact h.2
 case again=>subst hl;exact h
end Pg
namespace Mi
open PySem Sm L2 Pg
mutual
theorem sm:∀(n:Nat) (d:D),plain n d→∃a,pyD d=some a∧a.depth≤n
 | 0,_,h=>h.elim
 | n+1,.tup xs,h=>by
  obtain ⟨as,e,hd⟩:=hZ n xs h.2
  exact ⟨.tuple as,by simp [pyD,e],by simp [PyData.depth];omega⟩
 | n+1,.str x,h=>⟨.str x,rfl,by simp [PyData.depth]⟩
 | n+1,.int x,h=>⟨.int x,rfl,by simp [PyData.depth]⟩
 | n+1,.non,h=>⟨.none,rfl,by simp [PyData.depth]⟩
 | n+1,.bl x,h=>⟨.bool x,rfl,by simp [PyData.depth]⟩
 | n+1,.lv _,h=>h.elim
 | n+1,.ro _,h=>h.elim
 | n+1,.dv _,h=>h.elim
 | n+1,.ob _,h=>h.elim
 | n+1,.ty _,h=>h.elim
theorem hZ:∀(n:Nat) (xs:List D),(∀x∈xs,plain n x)→∃as,pyL xs=some as∧PyData.depthAll as≤n
 | n,[],_=>⟨[],rfl,by simp [PyData.depthAll]⟩
 | n,x::r,h=>by
  obtain ⟨a,e1,d1⟩:=sm n x (h x List.mem_cons_self)
  obtain ⟨as,e2,d2⟩:=hZ n r fun y hy=>h y (List.mem_cons_of_mem _ hy)
  exact ⟨a::as,by simp [pyL,e1,e2],by simp [PyData.depthAll];omega⟩
end
theorem uB {xs:List D} {as:List PyData} (e:pyL xs=some as):as.isEmpty=xs.isEmpty:=by
 cases xs with
 | nil=>cases e;rfl
 | cons x r=>
  simp only [pyL] at e
  cases h1:pyD x with
  | none=>rw [h1] at e;cases e
  | some a=>
   rw [h1] at e
   cases h2:pyL r with
   | none=>rw [h2] at e;cases e
   | some b=>rw [h2] at e;cases e;rfl
theorem pb {h:MH} {n:Nat} {xs:List D} {m:Nat} (hn:h[n]?=some (.lst xs)) (hp:∀x∈xs,plain m x) (hm:m≤60):fJ (.ob n) (.lv []) h=some (.bl (!xs.isEmpty),h):=by
 obtain ⟨as,e,d⟩:=hZ m xs hp
 simp only [fJ,eqA,df,hn,eqD,rdD,e,pyD,pyL,Option.map_some,Option.bind_some]
 rw [if_pos ⟨show PyData.depthAll as+1≤64 by omega,by decide⟩]
 rw [←uB e]
 cases as <;> rfl
structure Pl (h2:MH) (q p:Nat) (due pile:List D) (h:MH):Prop where
 a:h[q]?=some (.lst due)
 b:h[p]?=some (.lst pile)
 ne:q≠p
 le:∀k,k < h2.length→h[k]?=h2[k]?
 hq:h2.length≤q
 hp:h2.length≤p
 C:Cl h
theorem Pl.yr {h2:MH} {q p:Nat} {due pile:List D} {h:MH} (P:Pl h2 q p due pile h) (pile':List D) (hc:clL h.length pile'=true):Pl h2 q p due pile' (h.set p (.lst pile')):=by
 have lb:=(List.getElem?_eq_some_iff.mp P.b).1
 exact ⟨by rw [List.getElem?_set_ne (Ne.symm P.ne)];exact P.a,List.getElem?_set_self lb,P.ne,fun k hk=>by rw [List.getElem?_set_ne (by have:=P.hp;omega)];exact P.le k hk,P.hq,P.hp,P.C.set (o:=.lst pile') hc⟩
theorem Pl.zu {h2:MH} {q p:Nat} {due pile:List D} {h:MH} (P:Pl h2 q p due pile h) (due':List D) (hc:clL h.length due'=true):Pl h2 q p due' pile (h.set q (.lst due')):=by
 have lb:=(List.getElem?_eq_some_iff.mp P.a).1
 exact ⟨List.getElem?_set_self lb,by rw [List.getElem?_set_ne P.ne];exact P.b,P.ne,fun k hk=>by rw [List.getElem?_set_ne (by have:=P.hq;omega)];exact P.le k hk,P.hq,P.hp,P.C.set (o:=.lst due') hc⟩
def mO (j:Nat) (r:Row):D:=.tup [nT j,aL r]
theorem tL (n j:Nat) (r:Row):clD n (mO j r)=true:=by
 show (true&&(clD n (aL r)&&true))=true
 rw [dJ];rfl
theorem qA {h:MH} {n:Nat} {xs:List D} {y:D} (e:h[n]?=some (.lst (xs++[y]))):qB (.ob n) [] h=some (y,h.set n (.lst xs)):=by
 unfold qB
 dsimp only
 rw [e]
 dsimp only
 rw [List.length_append,List.length_singleton,Nat.add_sub_cancel,List.getElem?_append_right (Nat.le_refl _),Nat.sub_self,List.dropLast_concat]
 rfl
theorem p8 {n:Nat}:∀{xs:List D},clL n xs=true→∀{x},x∈xs→clD n x=true
 | y::r,h,x,hx=>by
  simp only [clL,Bool.and_eq_true] at h
  rcases List.mem_cons.mp hx with rfl | hx
  ·exact h.1
  ·exact p8 h.2 hx
theorem mP (xs:List (List Row)) (m:Nat):(xs.drop m).flatten.length≤xs.flatten.length:=by
 have:xs.flatten=(xs.take m).flatten++(xs.drop m).flatten:=by rw [←List.flatten_append,List.take_append_drop]
 rw [this,List.length_append];omega
theorem qu {h2:MH} {q p j N:Nat} {v0 v1 v2 v3 v6 v7 v8 w10 w11:Option D} {pre:List D} {rows:List Row} {h:MH} {Q:SQ} (hN:aX rows < N) (hpre:pre.length+aX rows≤1000) (hcl:∀n,clL n pre=true) (hsh:bP rows) (hnd:bN rows≤10)
  (P0:Pl h2 q p pre (rows.map aL).reverse h)
  (fin:∀w10 w11 h',Pl h2 q p (pre++(bF rows).map (mO j)) [] h'→Q (.nx,[v0,v1,v2,v3,some (.ob q),some (.int j),v6,v7,v8,some (.ob p),w10,w11],h')):
  Rn (ej (aY (eOp fJ (af 9) (eLv aj))) (ax (bc 10 (eM cb qB (af 9) aj))
  (ax (d9 (eM cb c6 (af 4) (ae (eFn bg (ae (af 5) (ae (af 10) aj))) aj)))
  (gi (ij (jE (eFn cC (ae (af 10) aj)) (eUn iI (eK (.int 1))))) (gN 11) (d9 (eM cb eg (af 9) (ae (eLv (lH (ae (jE (af 11) (eUn iI (eK (.int 1)))) aj))) aj)))))) N
   [v0,v1,v2,v3,some (.ob q),some (.int j),v6,v7,v8,some (.ob p),w10,w11] h) Q:=by
 refine md (fun k δ h'=>∃(done stack:List Row) (w10 w11:Option D),δ=[v0,v1,v2,v3,some (.ob q),some (.int j),v6,v7,v8,some (.ob p),w10,w11]∧k=aX stack∧done++bF stack=bF rows∧(∀r∈stack,aW r∧bq r≤10)∧Pl h2 q p (pre++done.map (mO j)) (stack.map aL).reverse h') ?_ N (aX rows) _ h hN ⟨[],rows,_,_,rfl,rfl,rfl,?_,by simpa using P0⟩
 ·rintro k δ h' ⟨done,stack,w10,w11,rfl,rfl,hds,hst,P⟩
  have hpl:∀x∈(stack.map aL).reverse,plain 25 x:=by
   intro x hx
   rw [List.mem_reverse] at hx
   obtain ⟨r,hr,rfl⟩:=List.mem_map.mp hx
   exact bh (hY r (hst r hr).1) (by have:=(hst r hr).2;omega)
  have hlen:done.length+aX stack=aX rows:=by rw [iq stack,iq rows,←hds,List.length_append]
  walk_at "run"
  refine rv (pb P.b hpl (by decide)) ?_
  refine ⟨_,rfl,fun z=>?_,fun z=>?_⟩
  ·match stack,z with
   | r::st,_=>
    have hc:aX (r::st)=cnt r+aX st:=by rw [aX]
    have c1:=mS r
    have cl:=jI st
    have P1:=P
    rw [List.map_cons,List.reverse_cons] at P1
    walk_at "run"
    refine j6 ?_
    walk_at "run"
    refine ⟨cK P1.b,?_⟩
    walk_at "run"
    refine rv (qA P1.b) ?_
    have P2:=P1.yr (st.map aL).reverse (by rw [←List.map_reverse];exact cQ _ _ (dJ _) _)
    generalize h'.set p (.lst (st.map aL).reverse)=h3 at P2 ⊢
    walk_at "run"
    refine j6 ?_
    walk_at "run"
    refine ⟨cK P2.a,?_⟩
    walk_at "run"
    refine rv (dm P2.a (by rw [List.length_append,List.length_map,show sizeLine=16777216 from rfl];omega)) ?_
    have hcl2:clL h3.length (pre++(done++[r]).map (mO j))=true:=by
     refine tO fun x hx=>?_
     rcases List.mem_append.mp hx with z | z
     ·exact p8 (hcl h3.length) z
     ·obtain ⟨r,_,rfl⟩:=List.mem_map.mp z;exact tL _ _ _
    have P3:=P2.zu (pre++(done++[r]).map (mO j)) hcl2
    rw [show pre++done.map (mO j)++[D.tup [.int (j:Int),aL r]]=pre++(done++[r]).map (mO j) by rw [List.map_append,List.append_assoc];rfl]
    generalize h3.set q (.lst (pre++(done++[r]).map (mO j)))=h4 at P3 ⊢
    walk_at "run"
    refine eA ?_
    refine mh ?_
    walk_at "run"
    refine rv (kc r _) ?_
    walk_at "run"
    refine ⟨rfl,_,_,rfl,?_⟩
    refine ⟨_,_,rfl,?_⟩
    rw [←List.map_reverse]
    have hfl:=jI (au r).flatten
    have hfc:=n5 r
    have hrr:=hst r List.mem_cons_self
    refine dI (fun i δ h5=>∃w11,δ=[v0,v1,v2,v3,some (.ob q),some (.int j),v6,v7,v8,some (.ob p),some (aL r),w11]∧Pl h2 q p (pre++(done++[r]).map (mO j)) ((((au r).drop ((au r).length-i)).flatten++st).map aL).reverse h5)
     ⟨_,rfl,by simpa using P3⟩ (fun _ _ _ _ _=>rfl) ?_ ?_
    ·rintro i x δ h5 hx ⟨w11,rfl,P5⟩
     rw [List.getElem?_map] at hx
     obtain ⟨l,hl,rfl⟩:=Option.map_eq_some_iff.mp hx
     have hi:i < (au r).length:=by have:=(List.getElem?_eq_some_iff.mp hl).1;rwa [List.length_reverse] at this
     rw [List.getElem?_reverse hi] at hl
     have hdr:(au r).drop ((au r).length-(i+1))=l::(au r).drop ((au r).length-i):=by
      have hlt:(au r).length-(i+1) < (au r).length:=by omega
      rw [List.drop_eq_getElem_cons hlt,show (au r).length-(i+1)+1=(au r).length-i by omega]
      congr 1
      rw [show (au r).length-1-i=(au r).length-(i+1) by omega] at hl
      exact (List.getElem?_eq_some_iff.mp hl).2
     have hb1:=mP (au r) ((au r).length-(i+1))
     rw [hdr,List.flatten_cons,List.length_append] at hb1
     walk_at "run"
     refine j6 ?_
     walk_at "run"
     refine ⟨cK P5.b,?_⟩
     walk_at "run"
     refine oJ ?_
     walk_at "run"
     refine mh ?_
     walk_at "run"
     refine ⟨rfl,_,_,rfl,?_⟩
     walk_at "run"
     refine ⟨_,_,_,rfl,rfl,?_⟩
     walk_at "run"
     refine rv (gr P5.b (by
      rw [List.length_reverse,List.length_map,List.length_append,List.length_reverse,cJ,List.length_map]
      omega)) ?_
     walk_at "run"
     refine ⟨_,rfl,?_⟩
     rw [hdr]
     have he:((((au r).drop ((au r).length-i)).flatten++st).map aL).reverse++(bj l).reverse=(((l::(au r).drop ((au r).length-i)).flatten++st).map aL).reverse:=by
      rw [cJ,List.flatten_cons]
      simp only [List.map_append,List.reverse_append,List.append_assoc]
     rw [he]
     exact P5.yr _ (by rw [←List.map_reverse];exact cQ _ _ (dJ _) _)
    ·rintro δ h5 ⟨w11,rfl,P5⟩
     rw [List.length_map,List.length_reverse,Nat.sub_self,List.drop_zero] at P5
     refine ⟨aX ((au r).flatten++st),by rw [jJ,hc];omega,done++[r],(au r).flatten++st,_,_,rfl,rfl,?_,?_,P5⟩
     ·rw [←hds,ik,←jB,bF]
      simp
     ·intro x hx
      rcases List.mem_append.mp hx with z | z
      ·obtain ⟨l,hl,hxl⟩:=List.mem_flatten.mp z
       exact ⟨oE hrr.1 hl hxl,by have:=ib hxl;have:=kM hl;omega⟩
      ·exact hst x (List.mem_cons_of_mem _ z)
  ·have hst0:stack=[]:=by cases stack with | nil=>rfl | cons _ _=>simp at z
   subst hst0
   rw [bF,List.append_nil] at hds
   subst hds
   exact fin _ _ _ P
 ·intro r hr
  exact ⟨gd hsh hr,by have:=ib hr;omega⟩
end Mi
namespace Pg
open PySem Sm L2
mutual
theorem qM:∀r0:Row,aW r0→∀r∈cL r0,aW r∧1+bq r≤bq r0
 | .say _,_,r,h=>by simp [cL] at h
 | .call _ _,_,r,h=>by simp [cL] at h
 | .within _ b,s,r,h=>by rw [cL] at h;rw [aW] at s;exact (fun z:_∧_=>⟨z.1,by have:=z.2;rw [bq];omega⟩) (bI b s r h)
 | .all _ b,s,r,h=>by rw [cL] at h;rw [aW] at s;exact (fun z:_∧_=>⟨z.1,by have:=z.2;rw [bq];omega⟩) (bI b s.2 r h)
 | .ask _ b e,s,r,h=>by
  rw [cL] at h;rw [aW] at s;rw [bq]
  rcases List.mem_append.mp h with h | h
  ·exact (fun z:_∧_=>⟨z.1,by have:=z.2;omega⟩) (bI b s.1 r h)
  ·exact (fun z:_∧_=>⟨z.1,by have:=z.2;omega⟩) (bI e s.2 r h)
 | .by_ _ _ a b c,s,r,h=>by
  rw [cL] at h;rw [aW] at s;rw [bq]
  rcases List.mem_append.mp h with h | h
  ·exact (fun z:_∧_=>⟨z.1,by have:=z.2;omega⟩) (bI a s.1 r h)
  ·rcases List.mem_append.mp h with h | h
   ·exact (fun z:_∧_=>⟨z.1,by have:=z.2;omega⟩) (bI b s.2.1 r h)
   ·exact (fun z:_∧_=>⟨z.1,by have:=z.2;omega⟩) (bI c s.2.2 r h)
 | .either a b,s,r,h=>by
  rw [cL] at h;rw [aW] at s;rw [bq]
  rcases List.mem_append.mp h with h | h
  ·exact (fun z:_∧_=>⟨z.1,by have:=z.2;omega⟩) (bI a s.1 r h)
  ·exact (fun z:_∧_=>⟨z.1,by have:=z.2;omega⟩) (bI b s.2 r h)
 | .again a,s,r,h=>by rw [cL] at h;rw [aW] at s;exact (fun z:_∧_=>⟨z.1,by have:=z.2;rw [bq];omega⟩) (bI a s r h)
theorem bI:∀l:List Row,bP l→∀r∈bF l,aW r∧1+bq r≤bN l
 | [],_,r,h=>by simp [bF] at h
 | x::xs,s,r,h=>by
  rw [bF] at h;rw [bP] at s;rw [bN]
  rcases List.mem_cons.mp h with rfl | h
  ·exact ⟨s.2.1,by omega⟩
  ·rcases List.mem_append.mp h with h | h
   ·exact (fun z:_∧_=>⟨z.1,by have:=z.2;omega⟩) (qM x s.2.1 r h)
   ·exact (fun z:_∧_=>⟨z.1,by have:=z.2;omega⟩) (bI xs s.2.2 r h)
end
theorem jn:∀{k:Nat} {ds:List gU} {x:Nat×List Nat×Row},x∈placesFrom k ds→∃d∈ds,x.2.2∈bF d.2.2
 | k,d::ds,x,h=>by
  rw [placesFrom] at h
  rcases List.mem_append.mp h with h | h
  ·obtain ⟨y,hy,rfl⟩:=List.mem_map.mp h
   exact ⟨d,List.mem_cons_self,by rw [←bw [] 0];exact List.mem_map.mpr ⟨y,hy,rfl⟩⟩
  ·obtain ⟨d',hd,hx⟩:=jn h
   exact ⟨d',List.mem_cons_of_mem _ hd,hx⟩
end Pg
namespace Mi
open PySem Sm L2 Pg
theorem law_true (ns:List Int) (hn:ns.length≤63):∃h',qc [.ro (ns.map D.int)] []=some (.bl true,h'):=by
 have e:Rn (qc [.ro (ns.map D.int)] []) fun p=>p.1=.bl true:=by
  obtain ⟨cs,ed,S0⟩:=pj ns hn
  refine dA ?_
  walk_at "run"
  refine rv ed ?_
  walk_at "run"
  refine fE ?_
  walk_at "run"
  refine ⟨8,rfl,by decide,by decide,?_⟩
  have C0:Cl [.lst (cs.map D.int),.lst [.int 0,.ob 0,.int 0]]:=by
   intro o ho
   rcases List.mem_cons.mp ho with rfl | ho
   ·exact mV _ cs
   ·rw [List.mem_singleton.mp ho];rfl
  refine dI (fun i δ h=>∃v2 v3 v4 v5 v6 v7 v8 v9 v10 v11,δ=[some (.ro (ns.map D.int)),some (.ob 1),v2,v3,v4,v5,v6,v7,v8,v9,v10,v11]∧Mi.St 1 0 cs (10000*i) h∧Cl h)
   ⟨_,_,_,_,_,_,_,_,_,_,rfl,S0,C0⟩ (fun _ _ _ _ _=>rfl) ?_ ?_
  ·rintro i x δ h hx ⟨v2,v3,v4,v5,v6,v7,v8,v9,v10,v11,rfl,S,C⟩
   have hi:i < 8:=by
    have:=(List.getElem?_eq_some_iff.mp hx).1
    simpa using this
   walk_at "run"
   obtain ⟨⟨d1,h1⟩,e1,hd1,S1,b1⟩:=bT (d:=.lv ([8,14,60].map D.int)) S (by omega) (.inl rfl) (by simp) (by simp)
   obtain ⟨most,rfl,hm⟩:=cI (P:=fun i=>0≤i∧i≤60) hd1 (by decide)
   refine rv e1 ?_
   have C1:=C.but S1 b1
   walk_at "run"
   obtain ⟨⟨d2,h2⟩,e2,hd2,S2,b2⟩:=bT (d:=.lv ([0,12,4].map D.int)) S1 (by omega) (.inl rfl) (by simp) (by simp)
   obtain ⟨odd,rfl,ho⟩:=cI (P:=fun i=>0≤i∧i≤12) hd2 (by decide)
   refine rv e2 ?_
   have C2:=C1.but S2 b2
   walk_at "run"
   obtain ⟨⟨_,h3⟩,e3,W,fl,P,rfl,ok,okp,S3,b3⟩:=mm (most:=most) (odd:=odd) S2 C2 (by omega) hm.1 ho.1 (by omega)
   refine rv e3 ?_
   have C3:=C2.but S3 b3
   dsimp only at S3 b3 C3
   have fit:=okp.fit (by omega) ok.d2
   have hmost:most.toNat≤60:=by omega
   have hcount:=okp.ct
   walk_at "run"
   refine gF ?_
   walk_at "run"
   refine rv (a:=(.tup (P.deeds.map dg),_)) rfl ?_
   walk_at "run"
   refine ⟨_,_,_,rfl,rfl,?_⟩
   have hsum:∀j,(placesFrom 0 (P.deeds.take j)).length≤60:=fun j=>by
    have h1:(placesFrom 0 P.deeds).length≤60:=by rw [cz];omega
    have:placesFrom 0 P.deeds=placesFrom 0 (P.deeds.take j)++placesFrom (0+(P.deeds.take j).length) (P.deeds.drop j):=by
     rw [←cA,List.take_append_drop]
    rw [this,List.length_append] at h1
    omega
   refine dI (fun j δ h'=>∃(v5 v6 v7 v8 v9 v10 v11:Option D),δ=[some (.ro (ns.map D.int)),some (.ob 1),some x,some (gG P),some (.ob h3.length),v5,v6,v7,v8,v9,v10,v11]∧h'[h3.length]?=some (.lst ((placesFrom 0 (P.deeds.take j)).map rowAt))∧(∀k,k < h3.length→h'[k]?=h3[k]?)∧Cl h')
    ⟨_,_,_,_,_,_,_,rfl,by simp [placesFrom],fun k hk=>List.getElem?_append_left hk,C3.snoc (o:=.lst []) rfl⟩ (fun _ _ _ _ _=>rfl) ?_ ?_
   ·rintro j x δ h' hx ⟨v5,v6,v7,v8,v9,v10,v11,rfl,hq,hle,C'⟩
    obtain ⟨d,hd,rfl⟩:=gM hx
    have hdm:=List.mem_of_getElem? hd
    have hj:j < P.deeds.length:=(List.getElem?_eq_some_iff.mp hd).1
    have htk:P.deeds.take (j+1)=P.deeds.take j++[d]:=by rw [List.take_succ,hd];rfl
    have hpl:placesFrom 0 (P.deeds.take (j+1))=placesFrom 0 (P.deeds.take j)++(aI [] 0 d.2.2).map fun x=>(j,x.1,x.2):=by
     rw [htk,cA]
     simp only [placesFrom,List.length_take,List.append_nil,Nat.zero_add]
     rw [Nat.min_eq_left (by omega)]
    obtain ⟨_,_,okl,hll⟩:=okp.dd j d hd
    have hs1:=hsum (j+1)
    rw [hpl,List.length_append,List.length_map,aT] at hs1
    have hlt:h3.length < h'.length:=(List.getElem?_eq_some_iff.mp hq).1
    unfold dg
    walk_at "run"
    refine oJ ?_
    walk_at "run"
    refine mh ?_
    walk_at "run"
    refine ⟨rfl,_,_,rfl,?_⟩
    walk_at "run"
    refine ⟨_,_,_,rfl,rfl,?_⟩
    walk_at "run"
    refine qu (h2:=h3) (q:=h3.length) (p:=List.length h') (j:=j) (rows:=d.2.2) (pre:=(placesFrom 0 (P.deeds.take j)).map rowAt) (by omega) (by rw [List.length_map];omega) (fun n=>cQ n _ (fun x:Nat×List Nat×Row=>tL n x.1 x.2.2) _) (a9 ok.p3 1 _ okl hll) (Nat.le_trans (fit.nd d hdm) (by decide)) ⟨?_,?_,by omega,?_,Nat.le_refl _,by omega,?_⟩ ?_
    ·rw [List.getElem?_append_left hlt];exact hq
    ·rw [cJ];simp
    ·intro k hk
     rw [List.getElem?_append_left (by omega)]
     exact hle k hk
    ·refine C'.snoc (o:=.lst _) ?_
     rw [cJ,←List.map_reverse]
     exact cQ _ _ (dJ _) _
    ·intro w10 w11 h5 P5
     refine ⟨_,_,_,_,_,_,_,rfl,?_,P5.le,P5.C⟩
     rw [P5.a,hpl,List.map_append,List.map_map,←bw [] 0 d.2.2,List.map_map]
     rfl
   ·rintro δ h' ⟨v5,v6,v7,v8,v9,v10,v11,rfl,hq,hle,C'⟩
    rw [cg,List.length_map,List.take_length] at hq
    walk_at "run"
    refine rv (kE fit _) ?_
    walk_at "run"
    refine rv (a:=(.tup ((placesFrom 0 P.deeds).map rowAt),h')) (by simp only [cO,cH,hq,Option.map_some]) ?_
    walk_at "run"
    have hplain:plain 20 (.tup ((placesFrom 0 P.deeds).map rowAt)):=by
     refine ia (by rw [cz];omega) fun x hx=>?_
     obtain ⟨d,hd,hx⟩:=jn hx
     obtain ⟨j,hj⟩:=List.mem_iff_getElem?.mp hd
     obtain ⟨_,_,okl,hll⟩:=okp.dd j d hj
     obtain ⟨s1,s2⟩:=bI _ (a9 ok.p3 1 _ okl hll) _ hx
     have:=fit.nd d hd
     exact aE trivial (aE (bh (hY _ s1) (by omega)) cY (by simp)) (by simp)
    refine rv (same_refl 20 _ _ hplain) ⟨true,rfl,fun z=>(nomatch z),fun _=>?_⟩
    walk_at "run"
    refine ⟨_,_,_,_,_,_,_,_,_,_,rfl,?_,C'⟩
    have lt3:=S3.lt
    obtain ⟨n,t,es,r0,r1,r2⟩:=S3.st
    exact ⟨⟨n,t,(hle 1 lt3.1).trans es,r0,r1,by omega⟩,(hle 0 lt3.2).trans S3.ce,S3.ne⟩
  ·rintro δ h ⟨v2,v3,v4,v5,v6,v7,v8,v9,v10,v11,rfl,S,C⟩
   walk_at "run"
   have e9:=kE (P:=⟨[Str.ofString "a"],[(Str.ofString "b",[],[])]⟩) ⟨by simp [bN],by simp [aX],by simp⟩ h
   simp only [gG,dg,bj,placesFrom,aI,List.map_cons,List.map_nil,List.append_nil] at e9
   refine rv e9 ?_
   walk_at "run"
   refine rv (same_refl 20 (.tup []) h cY) ?_
   walk_at "run"
 obtain ⟨⟨d,h'⟩,e1,rfl⟩:=e
 exact ⟨h',e1⟩
end Mi
open PySem PySem.W PyProof.Rows
abbrev Mi.ya (w:World):=some (Mi.fO.map fun x:Str×List Int=>(x.1,hashStr w x.1,x.2))
theorem Mi.left:LeftO Mi.pw Mi.view (["SHAPES"]:List Str) (fun s=>xlAt Mi.view [] s&&recOk (RowW.records (OpenRow.toRowW PySem.Challenge.rw_neverstuck_k04_rows_numbered.row)) s) (fun s=>Hd.tabAt s.heap "SHAPES") (Mi.ya) 20000:=LeftO.of_split "special-get-raises" fun w=>by kernel_rfl
theorem Mi.Ab:defOf Mi.view "law"=some (Hd.b0 "law" Mi.iA,[]):=by kernel_rfl
theorem Mi.hp:PySem.Program.theDef Mi.pw "law"=some (L2.gO Mi.iA,L2.fc Mi.iA,L2.aB Mi.iA):=by kernel_rfl
theorem PySem.Challenge.cw_neverstuck_k04_rows_numbered_holds : PySem.Challenge.rw_neverstuck_k04_rows_numbered.Holds := by
 refine holds_law (by decide+kernel) fun said=>?_
 refine PySem.W.holds_open (q:=Mi.view) (loose:=["SHAPES"]) (Xt:=fun s=>xlAt Mi.view [] s&&recOk (RowW.records (OpenRow.toRowW PySem.Challenge.rw_neverstuck_k04_rows_numbered.row)) s) (XP:=XL Mi.view []) (Yf:=fun s=>Hd.tabAt s.heap "SHAPES") (Ya:=Mi.ya) (YP:=fun w h=>Hd.tabAt h "SHAPES"=Mi.ya w) (N:=20000) (d:=Hd.b0 "law" Mi.iA) (kwd:=[]) Mi.left (fun _ _ e=>e) (fun _ _ _ y k=>Hd.oB k y) (fun s e=>xl_of s (Bool.and_eq_true_iff.mp e).1) XL.keeps Mi.Ab Mi.hp (by kernel_rfl) (fun s e=>recFacts_of (Bool.and_eq_true_iff.mp e).2) (by kernel_rfl) said (by decide+kernel) ⟨rfl,rfl,rfl,rfl,rfl,by decide+kernel⟩ (by w_witness2) ?_
 exact Hd.xE (k:=28) (by kernel_rfl) (by kernel_rfl) ⟨rfl,by decide,by decide⟩ fun w s₀ mg mb h G Y=>Mi.all_mk G.T Y Mi.law_true
