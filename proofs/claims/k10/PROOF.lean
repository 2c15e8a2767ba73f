import PyProof.Rows.All
import Wide.All
import OpenK.AllK
import Wide.FinOn
import Lean
import PyProof.EqAt
import PyProof.EqKinds
import PyProof.TupleCall
import PyProof.AttrMissHeap
import KE.KDictOf
import PyProof.ConsumeWalk
import PyProof.ZipIter
import PyProof.EnumMake
import KE.KEqDict
import KE.KDictSum
import KE.KItemsList
import PyProof.ListRange
import PyProof.NeKinds
import PyProof.Rows.SortShell
import PySem.Challenge.RW_neverstuck_k10_what_follows
set_option Elab.async false
set_option linter.all false
set_option maxRecDepth 100000
set_option maxHeartbeats 4000000
noncomputable section
namespace L2
open PySem PySem.Spec PyProof.Rows
abbrev Key:=Sum Int Str
def jw:Key→Value→Bool
 | .inl k,v=>Value.isInt k v
 | .inr x,v=>Value.isStrOf x v
def BN (w:World):Key→Int
 | .inl k=>hashInt k
 | .inr x=>hashStr w x
theorem aT:∀{k:Key} {v:Value},jw k v=true→(∃i t,k=Sum.inl i∧v=Value.int i t)∨(∃x t,k=Sum.inr x∧v=Value.str x t)
 | .inl i,v,h=>by
  obtain ⟨t,e⟩:=Value.isInt_shape (k:=i) (v:=v) h
  exact .inl ⟨i,t,rfl,e⟩
 | .inr x,v,h=>by
  obtain ⟨t,e⟩:=Value.isStrOf_shape (x:=x) (v:=v) h
  exact .inr ⟨x,t,rfl,e⟩
theorem rK (i:Int) (t:Tok):jw (.inl i) (.int i t)=true:=by simp [jw,Value.isInt]
theorem rJ (x:Str) (t:Tok):jw (.inr x) (.str x t)=true:=by simp [jw,Value.isStrOf]
theorem yQ (a b:Int):decide ((Sum.inl a:Key)=Sum.inl b)=(a==b):=by
 by_cases e:a=b
 ·subst e;simp
 ·have h:¬(Sum.inl a:Key)=Sum.inl b:=fun q=>e (Sum.inl.inj q)
  rw [decide_eq_false h]
  exact (beq_eq_false_iff_ne.mpr e).symm
theorem yN (a b:Str):decide ((Sum.inr a:Key)=Sum.inr b)=decide (a=b):=by
 by_cases e:a=b
 ·subst e;simp
 ·have h:¬(Sum.inr a:Key)=Sum.inr b:=fun q=>e (Sum.inr.inj q)
  rw [decide_eq_false h,decide_eq_false e]
theorem yP (a:Int) (b:Str):decide ((Sum.inl a:Key)=Sum.inr b)=false:=decide_eq_false (fun q=>nomatch q)
theorem yO (a:Str) (b:Int):decide ((Sum.inr a:Key)=Sum.inl b)=false:=decide_eq_false (fun q=>nomatch q)
def au (prog:Program) (w:World):PySem.KeyKind prog w Key where
 is:=jw
 hash:=BN w
 inj:=fun v a b ha hb=>by
  rcases aT ha with ⟨i,t,rfl,rfl⟩ | ⟨x,t,rfl,rfl⟩
  ·rcases aT hb with ⟨j,u,rfl,e⟩ | ⟨y,u,rfl,e⟩
   ·injection e with e1 _;rw [e1]
   ·exact nomatch e
  ·rcases aT hb with ⟨j,u,rfl,e⟩ | ⟨y,u,rfl,e⟩
   ·exact nomatch e
   ·injection e with e1 _;rw [e1]
 byValue:=fun k v h=>by
  rcases aT h with ⟨i,t,rfl,rfl⟩ | ⟨x,t,rfl,rfl⟩ <;> rfl
 pyHash:=fun hv h=>by
  rcases aT hv with ⟨i,t,rfl,rfl⟩ | ⟨x,t,rfl,rfl⟩
  ·exact wpAny_pyHash_int h
  ·exact wpAny_pyHash_str h
 eqBool:=fun hu hv h=>by
  rcases aT hu with ⟨i,t,rfl,rfl⟩ | ⟨x,t,rfl,rfl⟩
  ·rcases aT hv with ⟨j,u,rfl,rfl⟩ | ⟨y,u,rfl,rfl⟩
   ·rw [yQ] at h;exact wpAny_eqBool_int h
   ·rw [yP] at h;exact SeqAt.EqAt.int_str i t y u _ _ _ _ h
  ·rcases aT hv with ⟨j,u,rfl,rfl⟩ | ⟨y,u,rfl,rfl⟩
   ·rw [yO] at h;exact SeqAt.EqAt.str_int x t j u _ _ _ _ h
   ·rw [yN] at h;exact wpAny_eqBool_str h
 «strs»:=fun k x t v h=>by
  rcases aT h with ⟨i,u,rfl,e⟩ | ⟨y,u,rfl,e⟩
  ·exact nomatch e
  ·injection e with e1 _
   subst e1
   cases v <;> rfl
theorem o7 (prog:Program) (w:World) (k:Key) (v:Value):(au prog w).is k v=jw k v:=rfl
theorem nP (prog:Program) (w:World) (i:Int) (t:Tok):(au prog w).is (.inl i) (.int i t)=true:=rK i t
theorem nO (prog:Program) (w:World) (x:Str) (t:Tok):(au prog w).is (.inr x) (.str x t)=true:=rJ x t
end L2
namespace L2
open PySem PySem.Spec PyProof.Rows
inductive V where
 | non | bl (b:Bool) | int (i:Int) | str (x:Str) | byt (b:Array UInt8) | flt (b:UInt64) | ref (a:Addr) | ty (n:String)
 deriving DecidableEq
def RelV:V→Value→Prop
 | .non,u=>u=Value.none
 | .bl b,u=>u=Value.bool b
 | .int i,u=>∃t,u=Value.int i t
 | .str x,u=>∃t,u=Value.str x t
 | .byt b,u=>∃t,u=Value.bytes b t
 | .flt b,u=>∃t,u=Value.float b t
 | .ref a,u=>u=Value.ref a
 | .ty n,u=>u=Value.type n
abbrev Vals:List V→List Value→Prop:=Paired RelV
theorem Vals.length {xs:List V} {us:List Value} (r:Vals xs us):xs.length=us.length:=Paired.length r
theorem Vals.get:∀{xs:List V} {us:List Value} {i:Nat} {x:V},Vals xs us→xs[i]?=some x→∃u,us[i]?=some u∧RelV x u
 | _,_,_,_,.nil,e=>by simp at e
 | _,_,0,_,.cons r _,e=>by simp at e;subst e;exact ⟨_,rfl,r⟩
 | _,_,i+1,x,.cons _ t,e=>by
  obtain ⟨u,h1,h2⟩:=Vals.get (i:=i) (x:=x) t (by simpa using e)
  exact ⟨u,by simpa using h1,h2⟩
theorem Vals.set {x:V} {u:Value} (r:RelV x u):∀{xs:List V} {us:List Value} (i:Nat),Vals xs us→Vals (xs.set i x) (us.set i u)
 | _,_,_,.nil=>.nil
 | _,_,0,.cons _ t=>.cons r t
 | _,_,i+1,.cons q t=>.cons q (Vals.set r i t)
theorem Vals.append:∀{xs ys:List V} {us ws:List Value},Vals xs us→Vals ys ws→Vals (xs++ys) (us++ws)
 | _,_,_,_,.nil,s=>s
 | _,_,_,_,.cons r t,s=>.cons r (Vals.append t s)
theorem Vals.take:∀{xs:List V} {us:List Value} (n:Nat),Vals xs us→Vals (xs.take n) (us.take n)
 | _,_,0,_=>.nil
 | _,_,_+1,.nil=>.nil
 | _,_,n+1,.cons r t=>.cons r (Vals.take n t)
theorem Vals.drop:∀{xs:List V} {us:List Value} (n:Nat),Vals xs us→Vals (xs.drop n) (us.drop n)
 | _,_,0,r=>r
 | _,_,_+1,.nil=>.nil
 | _,_,n+1,.cons _ t=>Vals.drop n t
def ik:Option V→Option Value→Prop
 | some v,some u=>RelV v u
 | none,none=>True
 | _,_=>False
def KV {κ:Type}:List (κ×V)→List (κ×Value)→Prop:=Paired fun (p:κ×V) (q:κ×Value)=>p.1=q.1∧RelV p.2 q.2
def kV:Key→V
 | .inl i=>.int i
 | .inr x=>.str x
inductive HO where
 | lst (xs:List V)
 | tup (xs:List V)
 | dK (kvs:List (Key×V)) | dT (kvs:List (List Key×V))
 | set (S:Int→Bool) (n:Nat)
 | ins (C dx:Addr) (fs:List (Str×V))
 | own (x:Addr)
 | xd (fs:List (Str×V))
 | met (f x:Addr)
 | rng (lo hi:Int)
 | frz (o:Obj) (u:HO)
 | tbl (ps:Array Value)
 | ext (φ:Heap→Prop)
abbrev Hp:=Addr→Option HO
def upd (H:Hp) (a:Addr) (o:HO):Hp:=fun b=>if b=a then some o else H b
theorem ar {H:Hp} {a:Addr} {o:HO}:upd H a o a=some o:=by unfold upd;rw [if_pos rfl]
theorem ai {H:Hp} {a b:Addr} {o:HO} (h:b≠a):upd H a o b=H b:=by unfold upd;rw [if_neg h]
theorem gd {H:Hp} {a:Addr} {o u:HO}:upd (upd H a o) a u=upd H a u:=by
 funext b;unfold upd;split <;> rfl
theorem AA {H:Hp} {a b:Addr} {o u:HO} (h:H a=some o) (h':H b=some u) (d:o≠u):a≠b:=by
 intro e;subst e;rw [h] at h';exact d (Option.some.inj h')
theorem ax {H:Hp} {a b:Addr} {o:HO} (h:H a=some o) (h':H b=none):a≠b:=by
 intro e;subst e;rw [h] at h';cases h'
def kj (h:Heap) (a:Addr) (items:Array Value):Prop:=∃o,h.get? a=some o∧o.cls=.type "tuple"∧(∃n,o.data=.seq items n)∧o.dict=none
theorem kj.tup {h:Heap} {a:Addr} {items:Array Value} (x:kj h a items):IsTup h a items:=let ⟨o,e,c,d,_⟩:=x;⟨o,e,c,d⟩
theorem kj.new (h:Heap) (items:Array Value):kj (h.push {cls:=.type "tuple",data:=.seq items}) h.objs.size items:=⟨_,Heap.get?_push_size _ rfl,rfl,⟨_,rfl⟩,rfl⟩
section
variable (P:Program) (w:World)
def a8 (H:Hp) (h:Heap) (a:Addr):HO→Prop
 | .lst xs=>xs.length≤sizeLine∧∃(its:List Value) (n:Nat),Vals xs its∧h.get? a=some {cls:=.type "list",data:=.seq its.toArray n}
 | .tup xs=>xs.length≤sizeLine∧∃its:List Value,Vals xs its∧kj h a its.toArray
 | .dK kvs=>kvs.length≤sizeLine∧(a==sysModules)=false∧∃vs,KV kvs vs∧h.DictOf (au P w) a vs
 | .dT kvs=>kvs.length≤sizeLine∧(a==sysModules)=false∧∃xs:List (List Key×Addr×Value),
   Paired (fun (p:List Key×V) (q:List Key×Addr×Value)=>p.1=q.1∧H q.2.1=some (.tup (p.1.map kV))∧RelV p.2 q.2.2) kvs xs∧
   ∃o es ep,h.get? a=some o∧o.ExactDict∧o.data=.dict es ep∧es.toList=xs.map (entryOfKey (tupleKind (au P w)))∧(xs.map (·.1)).Nodup
 | .set S n=>h.SetOf (intKind P w) a S n
 | .ins C dx fs=>H dx=some (.own a)∧fs.length≤1000∧dx≠a∧h.get? a=some (PySem.W.instObj C dx)∧
   ∃mA,h.Ns1 dx mA∧(∀f,ik (fs.lookup f) (mA f))∧PySem.Within mA (fs.map (·.1))
 | .own _=>∃o,h.get? a=some o
 | .xd fs=>∃mA,h.Ns1 a mA∧∀f,ik (fs.lookup f) (mA f)
 | .rng lo hi=>∃t u v,h.get? a=some {cls:=.type "range",data:=.fields #[.int lo t,.int hi u,.int 1 v]}
 | .frz o u=>h.get? a=some o∧a8 H h a u
 | .tbl ps=>h.get? a=some {cls:=.none,data:=.fields ps}
 | .met f x=>h.get? a=some (PySem.W.methodObj (.ref f) (.ref x))
 | .ext φ=>φ h∧(∃o,h.get? a=some o)∧∀h1 h2:Heap,φ h1→(∀o,h1.get? a=some o→h2.get? a=some o)→φ h2
def HOk (H:Hp) (h:Heap):Prop:=∀a o,H a=some o→a8 P w H h a o
end
section
variable {P:Program} {w:World} {H H':Hp} {h h':Heap} {a:Addr} {o:HO}
theorem a8.lt (x:a8 P w H h a o):a < h.objs.size:=by
 cases o with
 | lst xs=>obtain ⟨_,_,_,_,e⟩:=x;exact Heap.lt_size e
 | tup xs=>obtain ⟨_,_,_,p⟩:=x;exact p.tup.lt
 | dK kvs=>obtain ⟨_,_,_,_,o,_,_,e,_⟩:=x;exact Heap.lt_size e
 | dT kvs=>obtain ⟨_,_,_,_,o,_,_,e,_⟩:=x;exact Heap.lt_size e
 | set S n=>obtain ⟨o,_,_,_,e,_⟩:=x;exact Heap.lt_size e
 | ins C dx fs=>obtain ⟨_,_,_,e,_⟩:=x;exact Heap.lt_size e
 | own y=>obtain ⟨_,e⟩:=x;exact Heap.lt_size e
 | xd fs=>obtain ⟨_,⟨_,_,_,e,_⟩,_⟩:=x;exact Heap.lt_size e
 | rng lo hi=>obtain ⟨_,_,_,e⟩:=x;exact Heap.lt_size e
 | frz ob u=>obtain ⟨e,_⟩:=x;exact Heap.lt_size e
 | tbl ps=>exact Heap.lt_size (show h.get? a=some _ from x)
 | met f y=>exact Heap.lt_size (show h.get? a=some _ from x)
 | ext φ=>obtain ⟨_,⟨_,e⟩,_⟩:=x;exact Heap.lt_size e
theorem Paired.yL {α β:Type} {F G:α→β→Prop}:∀{l₁:List α} {l₂:List β},Paired F l₁ l₂→(∀a b,F a b→G a b)→Paired G l₁ l₂
 | _,_,.nil,_=>.nil
 | _,_,.cons r t,f=>.cons (f _ _ r) (Paired.yL t f)
theorem a8.iD (x:a8 P w H h a o) (k:∀b u,(b=a∨H b=some (.own a))→h.get? b=some u→h'.get? b=some u)
  (ho:∀b,H b=some (.own a)→H' b=some (.own a)) (ht:∀b xs,H b=some (.tup xs)→H' b=some (.tup xs)):a8 P w H' h' a o:=by
 induction o with
 | lst xs=>obtain ⟨z,its,n,r,e⟩:=x;exact ⟨z,its,n,r,k _ _ (.inl rfl) e⟩
 | tup xs=>obtain ⟨z,its,r,ob,e,c⟩:=x;exact ⟨z,its,r,ob,k _ _ (.inl rfl) e,c⟩
 | dK kvs=>obtain ⟨z,y,vs,r,ob,es,ep,e,c⟩:=x;exact ⟨z,y,vs,r,ob,es,ep,k _ _ (.inl rfl) e,c⟩
 | dT kvs=>
  obtain ⟨z,y,xs,r,ob,es,ep,e,c⟩:=x
  exact ⟨z,y,xs,Paired.yL r fun p q z=>⟨z.1,ht _ _ z.2.1,z.2.2⟩,ob,es,ep,k _ _ (.inl rfl) e,c⟩
 | set S n=>obtain ⟨ob,es,ep,t,e,c⟩:=x;exact ⟨ob,es,ep,t,k _ _ (.inl rfl) e,c⟩
 | ins C dx fs=>
  obtain ⟨d,z,ne,e,mA,⟨od,es,ep,e2,c⟩,r⟩:=x
  exact ⟨ho _ d,z,ne,k _ _ (.inl rfl) e,mA,⟨od,es,ep,k _ _ (.inr d) e2,c⟩,r⟩
 | own y=>obtain ⟨ob,e⟩:=x;exact ⟨ob,k _ _ (.inl rfl) e⟩
 | xd fs=>obtain ⟨mA,⟨od,es,ep,e,c⟩,r⟩:=x;exact ⟨mA,⟨od,es,ep,k _ _ (.inl rfl) e,c⟩,r⟩
 | rng lo hi=>obtain ⟨t,u,v,e⟩:=x;exact ⟨t,u,v,k _ _ (.inl rfl) e⟩
 | frz ob u ih=>obtain ⟨e,q⟩:=x;exact ⟨k _ _ (.inl rfl) e,ih q⟩
 | tbl ps=>
  have e:h.get? a=some {cls:=.none,data:=.fields ps}:=x
  show h'.get? a=some {cls:=.none,data:=.fields ps}
  exact k a _ (.inl rfl) e
 | met f y=>
  have e:h.get? a=some (PySem.W.methodObj (.ref f) (.ref y)):=x
  show h'.get? a=some (PySem.W.methodObj (.ref f) (.ref y))
  exact k a _ (.inl rfl) e
 | ext φ=>obtain ⟨p,⟨o,e⟩,st⟩:=x;exact ⟨st _ _ p fun o q=>k _ _ (.inl rfl) q,⟨o,k _ _ (.inl rfl) e⟩,st⟩
theorem HOk.lt (x:HOk P w H h) (e:H a=some o):a < h.objs.size:=(x a o e).lt
theorem HOk.fresh (x:HOk P w H h) (e:h.objs.size≤a):H a=none:=by
 cases q:H a with
 | none=>rfl
 | some u=>exact absurd (Nat.lt_of_lt_of_le (x.lt q) e) (Nat.lt_irrefl _)
theorem HOk.kept (x:HOk P w H h) (k:∀b u,h.get? b=some u→h'.get? b=some u):HOk P w H h':=fun a o e=>
 (x a o e).iD (fun b u _ q=>k b u q) (fun _ q=>q) fun _ _ q=>q
theorem HOk.laid (x:HOk P w H h) (k:∀b u,h.get? b=some u→h'.get? b=some u) (hp:h.objs.size≤a) (new:a8 P w (upd H a o) h' a o):HOk P w (upd H a o) h':=fun b u e=>by
 have hn:=x.fresh hp
 by_cases hb:b=a
 ·subst hb;rw [ar] at e;cases e;exact new
 ·rw [ai hb] at e
  exact (x b u e).iD (fun c v _ q=>k c v q) (fun c q=>by rw [ai (ax q hn)];exact q) fun c xs q=>by rw [ai (ax q hn)];exact q
end
def Rd (H:Hp) (a:Addr) (u:HO):Prop:=H a=some u∨∃o,H a=some (.frz o u)
theorem Rd.ok {P:Program} {w:World} {H:Hp} {h:Heap} {a:Addr} {u:HO} (r:Rd H a u) (x:HOk P w H h):a8 P w H h a u:=by
 rcases r with r | ⟨o,r⟩
 ·exact x a u r
 ·obtain ⟨_,q⟩:=x a _ r
  exact q
def Mut:Option HO→Prop
 | some (.lst _)=>True
 | some (.dK _)=>True
 | some (.dT _)=>True
 | some (.set _ _)=>True
 | some (.ins _ _ _)=>True
 | some (.ext _)=>True
 | _=>False
section
variable {P:Program} {w:World} {H:Hp} {h h':Heap} {x e:Addr} {o':HO}
theorem HOk.write (ok:HOk P w H h) (mu:Mut (H x)) (he:e=x∨H e=some (.own x)) (k:∀b u,b≠e→h.get? b=some u→h'.get? b=some u) (heo:∃u,h'.get? e=some u)
  (new:a8 P w (upd H x o') h' x o'):HOk P w (upd H x o') h':=fun b u q=>by
 have nown:∀c y,H c=some (.own y)→c≠x:=fun c y r z=>by subst z;rw [r] at mu;exact mu
 have ntup:∀c xs,H c=some (.tup xs)→c≠x:=fun c xs r z=>by subst z;rw [r] at mu;exact mu
 by_cases hb:b=x
 ·subst hb;rw [ar] at q;cases q;exact new
 ·rw [ai hb] at q
  by_cases hbe:b=e
  ·have q':H b=some (.own x):=by
    rcases he with z | z
    ·exact absurd (hbe.trans z) hb
    ·rw [hbe];exact z
   rw [q] at q';cases q'
   obtain ⟨v,hv⟩:=heo
   exact ⟨v,by rw [hbe];exact hv⟩
  ·refine (ok b u q).iD (fun c v hc r=>k c v ?_ r) (fun c r=>by rw [ai (nown c b r)];exact r) fun c xs r=>by rw [ai (ntup c xs r)];exact r
   rcases hc with rfl | hc
   ·exact hbe
   ·rintro rfl
    rcases he with z | z
    ·exact nown c b hc z
    ·rw [hc] at z;cases z;exact hb rfl
end
structure Un (fs ex:List Addr) (H H':Hp) (h h':Heap):Prop where
 keep:∀b o,h.get? b=some o→H b=none→b∉fs→b∉ex→h'.get? b=some o
 slot:∀b o,h.get? b=some o→H b=none→b∈fs→b∉ex→∃sl,h'.get? b=some {o with slots:=sl}
 free:∀b o,h.get? b=some o→H b=none→b∉ex→H' b=none
 there:∀b o,h.get? b=some o→b∉ex→∃o',h'.get? b=some o'
 tups:∀b xs,H b=some (.tup xs)→H' b=some (.tup xs)
 frzs:∀b o u,H b=some (.frz o u)→H' b=some (.frz o u)
 tbls:∀b ps,H b=some (.tbl ps)→∃more,H' b=some (.tbl (ps++more))
section
variable {fs fs' ex ex':List Addr} {H H1 H2:Hp} {h h1 h2 h':Heap} {a x e:Addr} {o:HO}
theorem Un.any (u:Un fs ex H H1 h h1) {b:Addr} {ob:Obj} (q:h.get? b=some ob) (n:H b=none) (hx:b∉ex):∃sl,h1.get? b=some {ob with slots:=sl}:=by
 by_cases hb:b∈fs
 ·exact u.slot b ob q n hb hx
 ·exact ⟨ob.slots,u.keep b ob q n hb hx⟩
theorem Un.kept (k:∀b u,h.get? b=some u→h'.get? b=some u):Un fs ex H H h h':=
 ⟨fun b ob q _ _ _=>k b ob q,fun b ob q _ _ _=>⟨ob.slots,k b ob q⟩,fun _ _ _ n _=>n,fun b ob q _=>⟨ob,k b ob q⟩,fun _ _ q=>q,fun _ _ _ q=>q,fun _ ps q=>⟨#[],by rw [q];simp⟩⟩
theorem Un.refl:Un fs ex H H h h:=Un.kept fun _ _ q=>q
theorem Un.laid (k:∀b u,h.get? b=some u→h'.get? b=some u) (hp:h.objs.size≤a) (hn:H a=none):Un fs ex H (upd H a o) h h' where
 keep:=fun b u q _ _ _=>k b u q
 slot:=fun b u q _ _ _=>⟨u.slots,k b u q⟩
 free:=fun b u q n _=>by rw [ai (Nat.ne_of_lt (Nat.lt_of_lt_of_le (Heap.lt_size q) hp))];exact n
 there:=fun b u q _=>⟨u,k b u q⟩
 tups:=fun b xs q=>by rw [ai (ax q hn)];exact q
 frzs:=fun b u xs q=>by rw [ai (ax q hn)];exact q
 tbls:=fun b ps q=>⟨#[],by rw [ai (ax q hn),q];simp⟩
theorem Un.write (mu:Mut (H x)) (he:e=x∨H e=some (.own x)) (k:∀b u,b≠e→h.get? b=some u→h'.get? b=some u) (heo:∃u,h'.get? e=some u):Un fs ex H (upd H x o) h h':=by
 have hx:∀b,H b=none→b≠x:=fun b n z=>by subst z;rw [n] at mu;exact mu
 have hb:∀b,H b=none→b≠e:=fun b n z=>by
  subst z
  rcases he with r | r
  ·exact hx b n r
  ·rw [n] at r;cases r
 have hm:∀b u,H b=some u→¬Mut (some u)→b≠x:=fun b u q nm z=>by subst z;rw [q] at mu;exact nm mu
 refine ⟨fun b u q n _ _=>k b u (hb b n) q,fun b u q n _ _=>⟨u.slots,k b u (hb b n) q⟩,fun b u q n _=>by rw [ai (hx b n)];exact n,fun b u q _=>?_,
  fun b xs q=>by rw [ai (hm b _ q fun z=>z)];exact q,fun b u xs q=>by rw [ai (hm b _ q fun z=>z)];exact q,fun b ps q=>⟨#[],by rw [ai (hm b _ q fun z=>z),q];simp⟩⟩
 by_cases hbe:b=e
 ·subst hbe;exact heo
 ·exact ⟨u,k b u hbe q⟩
end
def trk (h:Heap) (H:Hp):List Addr:=(List.range h.objs.size).filter fun a=>(H a).isSome
def mr (h:Heap) (H:Hp):Heap:=PySem.W.hideAll h (trk h H)
theorem rP (h:Heap) (H:Hp):(mr h H).objs.size=h.objs.size:=PySem.W.hideAll_size _ _
theorem ud {h:Heap} {H:Hp} {b:Addr} {o:Obj} (e:h.get? b=some o) (n:H b=none):(mr h H).get? b=some o:=
 PySem.W.hideAll_get _ e fun hm=>by
  have q:(H b).isSome=true:=(List.mem_filter.mp hm).2
  rw [n] at q;simp at q
theorem wg {h:Heap} {H:Hp} {b:Addr} {o:Obj} (e:(mr h H).get? b=some o):h.get? b=some o∧H b=none:=by
 have e':h.get? b=some o:=PySem.W.of_hideAll (trk h H) e
 refine ⟨e',?_⟩
 cases q:H b with
 | none=>rfl
 | some x=>
  have hm:b∈trk h H:=List.mem_filter.mpr ⟨List.mem_range.mpr (Heap.lt_size e'),by simp [q]⟩
  have z:(mr h H).get? b=none:=PySem.W.hideAll_none (trk h H) hm
  rw [z] at e;cases e
end L2
namespace L2
open PySem PySem.Spec PyProof.Rows
structure Mod (K:PySem.W.Frag) (mg:Str→Option Value) (base:Heap):Prop where
 kin:K.In base
 glob:base.Ns mainGlobals mg
 blt:∃mb,base.Ns builtinsNs mb∧∀x:Str,x≠"__name__"→mb x=bootBuiltins x
 nolimit:base.NoLimit
structure Cx where
 prog:Program
 w:World
 K:PySem.W.Frag
 mg:Str→Option Value
 base:Heap
 A:Around
 N:List Str
 s₀:Shared
 H₀:Hp
 env:Env
 outer:List Env
 stack:List Env
 ex:List Addr
 fn:Str→Bool
 calm:Bool
 pn:List (Addr×Obj)
 xe:Value→Shared→Prop
def frs (l:List Env):List Addr:=l.filterMap (·.frame)
abbrev Cx.fs (X:Cx):List Addr:=frs X.outer
def Vis (sc:Scope) (x:Str):Prop:=sc.names.lookup x=some .local∨sc.names.lookup x=some .cell∨sc.names.lookup x=some .free
def Loc (sc:Scope) (x:Str):Prop:=sc.names.lookup x=some .local∨sc.names.lookup x=some .cell
def Look (env:Env) (h:Heap) (m:Str→Option Value) (x:Str) (u:Value):Prop:=
 (env.kindOf x=some .local∧m x=some u)∨((env.kindOf x=some .cell∨env.kindOf x=some .free)∧∃c,env.cells.lookup x=some c∧h.IsCell c (some u))
structure Cx.Ok (X:Cx):Prop where
 mod:Mod X.K X.mg X.base
 kind:X.env.scope.kind=.function
 glob:X.env.globals=mainGlobals
 blt:X.env.builtins=builtinsNs
 above:X.s₀.heap.objs.size≤X.env.locals
 inj:∀x y c,X.env.cells.lookup x=some c→X.env.cells.lookup y=some c→x=y
 has:∀x,(X.env.kindOf x=some .cell∨X.env.kindOf x=some .free)→∃c,X.env.cells.lookup x=some c
 cab:∀x c,X.fn x=true→X.env.cells.lookup x=some c→X.s₀.heap.objs.size≤c
 hd:X.calm=true→X.A.handled=none
 frames:X.A.frames=some X.stack
 stk:X.stack=X.outer∨(X.stack=X.env::X.outer∧X.env.frame=some X.env.locals)
 exf:∀b∈X.ex,b≠X.env.locals∧∀x c,X.env.cells.lookup x=some c→c≠b
 bs:∀b o,X.base.get? b=some o→X.s₀.heap.get? b=some o∧X.H₀ b=none
 bsz:X.base.objs.size≤X.s₀.heap.objs.size
 noex:∀b o,X.base.get? b=some o→b∉X.ex
 exfs:∀b∈X.ex,b∉X.fs
 jA:X.s₀.heap.FunFrames X.base X.outer
 frf:∀b∈X.fs,X.H₀ b=none
structure Inv (X:Cx) (pins:List (Addr×Obj)) (σ:List (Option V)) (H:Hp) (s:Shared):Prop where
 ok:X.Ok
 os:s.os=X.s₀.os
 bare:AllBare s.gens
 base:Un X.fs X.ex X.H₀ H X.s₀.heap s.heap
 loc:∃m,s.heap.Ns X.env.locals m∧∀(i:Nat) (x:Str) (v:V),X.N[i]?=some x→σ[i]?=some (some v)→Vis X.env.scope x→∃u,RelV v u∧Look X.env s.heap m x u
 cell:∀x c,X.env.cells.lookup x=some c→∃v,s.heap.IsCell c v
 free:H X.env.locals=none
 freeC:∀x c,X.env.cells.lookup x=some c→H c=none
 pin:∀p∈X.pn++pins,s.heap.get? p.1=some p.2∧H p.1=none∧p.1≠X.env.locals∧p.1∉X.fs∧∀v,p.2.data≠.cell v
 hok:HOk X.prog X.w H s.heap
 len:σ.length=X.N.length
section
variable {X:Cx} {pins:List (Addr×Obj)} {σ:List (Option V)} {H H':Hp} {s:Shared} {h':Heap}
theorem Cx.Ok.BJ (ok:X.Ok) {b:Addr} {o:Obj} (e:X.base.get? b=some o):b∉X.fs:=fun hb=>by
 have:=(ok.jA.mem hb).1
 rw [e] at this;cases this
theorem Inv.bs (I:Inv X pins σ H s):∀b o,X.base.get? b=some o→s.heap.get? b=some o∧H b=none:=fun b o e=>
 ⟨I.base.keep b o (I.ok.bs b o e).1 (I.ok.bs b o e).2 (I.ok.BJ e) (I.ok.noex b o e),I.base.free b o (I.ok.bs b o e).1 (I.ok.bs b o e).2 (I.ok.noex b o e)⟩
theorem Inv.bk (I:Inv X pins σ H s):∀b o,X.base.get? b=some o→s.heap.get? b=some o:=fun b o e=>(I.bs b o e).1
theorem Inv.mod (I:Inv X pins σ H s):Mod X.K X.mg X.base:=I.ok.mod
theorem Inv.kIn (I:Inv X pins σ H s):X.K.In s.heap:=I.ok.mod.kin.keeps I.bk
theorem Inv.lt (I:Inv X pins σ H s):X.env.locals < s.heap.objs.size:=let ⟨_,hn,_⟩:=I.loc;hn.lt
theorem Inv.sz (I:Inv X pins σ H s):X.s₀.heap.objs.size≤s.heap.objs.size:=Nat.le_trans I.ok.above (Nat.le_of_lt I.lt)
theorem Inv.BI (I:Inv X pins σ H s) {a:Addr} (h:s.heap.objs.size≤a):a∉X.fs:=fun hb=>by
 obtain ⟨_,o,ho,_⟩:=I.ok.jA.mem hb
 exact absurd (Nat.lt_of_lt_of_le (Heap.lt_size ho) (Nat.le_trans I.sz h)) (Nat.lt_irrefl _)
theorem Inv.cne (I:Inv X pins σ H s):∀x c,X.env.cells.lookup x=some c→c≠X.env.locals:=fun x c e z=>by
 obtain ⟨v,o,ho,hd⟩:=I.cell x c e
 obtain ⟨m,⟨o',es,ep,ho',hd',_⟩,_⟩:=I.loc
 rw [z,ho'] at ho;cases ho;rw [hd'] at hd;cases hd
theorem Inv.jA (I:Inv X pins σ H s):s.heap.FunFrames X.base X.outer:=by
 have all:∀(l:List Env),(∀b∈frs l,b∈X.fs)→X.s₀.heap.FunFrames X.base l→s.heap.FunFrames X.base l:=by
  intro l
  induction l with
  | nil=>intro _ _;trivial
  | cons env r ih=>
   intro hs hl
   obtain ⟨hk,⟨L,o,hf,hn,ho,hd⟩,hr⟩:=hl
   have hL:L∈X.fs:=hs L (by unfold frs;rw [List.filterMap_cons,hf];exact List.mem_cons_self)
   obtain ⟨sl,e⟩:=I.base.slot L o ho (I.ok.frf L hL) hL fun z=>I.ok.exfs L z hL
   exact ⟨hk,⟨L,_,hf,hn,e,hd⟩,ih (fun b hb=>hs b (by unfold frs;rw [List.filterMap_cons,hf];exact List.mem_cons_of_mem _ hb)) hr⟩
 exact all X.outer (fun _ hb=>hb) I.ok.jA
theorem Inv.stack (I:Inv X pins σ H s):s.heap.FunFrames X.base X.stack:=by
 rcases I.ok.stk with e | ⟨e,hf⟩
 ·rw [e];exact I.jA
 ·rw [e]
  obtain ⟨m,hn,_⟩:=I.loc
  refine .cons (by rw [I.ok.kind];decide) hf hn ?_ I.jA
  exact Heap.get?_none_of_le (Nat.le_trans I.ok.bsz I.ok.above)
theorem Inv.gM (I:Inv X pins σ H s):∀b∈frs X.stack,b∈X.env.locals::X.fs:=fun b hb=>by
 rcases I.ok.stk with e | ⟨e,hf⟩
 ·rw [e] at hb;exact List.mem_cons_of_mem _ hb
 ·rw [e] at hb
  unfold frs at hb
  rw [List.filterMap_cons,hf] at hb
  exact hb
theorem Inv.pR (I:Inv X pins σ H s):∀b∈frs X.stack,H b=none:=fun b hb=>by
 rcases List.mem_cons.mp (I.gM b hb) with e | hb
 ·rw [e];exact I.free
 ·obtain ⟨_,o,ho,_⟩:=I.ok.jA.mem hb
  exact I.base.free b o ho (I.ok.frf b hb) fun z=>I.ok.exfs b z hb
theorem Inv.step {g':Array GenState} {t':Nat} {d':Drawn} {ch:List Addr} (I:Inv X pins σ H s)
  (hch:∀b∈ch,(b∈X.ex∨X.s₀.heap.objs.size≤b)∧b≠X.env.locals∧(∀x c,X.env.cells.lookup x=some c→c≠b)∧∀p∈X.pn++pins,p.1≠b)
  (keep:∀b o,b≠X.env.locals→b∉X.fs→b∉ch→s.heap.get? b=some o→H b=none→h'.get? b=some o)
  (slot:∀b o,b≠X.env.locals→b∈X.fs→b∉ch→s.heap.get? b=some o→H b=none→∃sl,h'.get? b=some {o with slots:=sl}) (free:∀b o,b∉ch→s.heap.get? b=some o→H b=none→H' b=none)
  (there:∀b o,b∉ch→s.heap.get? b=some o→∃o',h'.get? b=some o')
  (tups:∀b xs,H b=some (.tup xs)→H' b=some (.tup xs)) (frzs:∀b o u,H b=some (.frz o u)→H' b=some (.frz o u)) (tbls:∀b ps,H b=some (.tbl ps)→∃more,H' b=some (.tbl (ps++more)))
  (ns:∀m,s.heap.Ns X.env.locals m→h'.Ns X.env.locals m) (hok:HOk X.prog X.w H' h') (hg:AllBare g'):
  Inv X pins σ H' {s with heap:=h',gens:=g',drawn:=d',toks:=t'}:=by
 have neL:∀b o,X.s₀.heap.get? b=some o→b≠X.env.locals:=fun b o e=>Nat.ne_of_lt (Nat.lt_of_lt_of_le (Heap.lt_size e) I.ok.above)
 have neC:∀b o,X.s₀.heap.get? b=some o→b∉X.ex→b∉ch:=fun b o e hx hb=>by
  rcases (hch b hb).1 with z | z
  ·exact hx z
  ·exact absurd (Nat.lt_of_lt_of_le (Heap.lt_size e) z) (Nat.lt_irrefl _)
 have cellK:∀x c,X.env.cells.lookup x=some c→∀v,s.heap.IsCell c v→h'.IsCell c v:=fun x c e v ⟨o,ho,hd⟩=>by
  have nch:c∉ch:=fun z=>(hch c z).2.2.1 x c e rfl
  by_cases hc:c∈X.fs
  ·obtain ⟨sl,q⟩:=slot c o (I.cne x c e) hc nch ho (I.freeC x c e)
   exact ⟨_,q,hd⟩
  ·exact ⟨o,keep c o (I.cne x c e) hc nch ho (I.freeC x c e),hd⟩
 refine ⟨I.ok,I.os,hg,⟨fun b o e n hb hx=>?_,fun b o e n hb hx=>?_,fun b o e n hx=>?_,fun b o e hx=>?_,fun b xs e=>tups b xs (I.base.tups b xs e),fun b o xs e=>frzs b o xs (I.base.frzs b o xs e),fun b ps e=>?_⟩,?_,fun x c e=>?_,?_,fun x c e=>?_,fun p hp=>?_,hok,I.len⟩
 ·exact keep b o (neL b o e) hb (neC b o e hx) (I.base.keep b o e n hb hx) (I.base.free b o e n hx)
 ·obtain ⟨sl,e1⟩:=I.base.slot b o e n hb hx
  obtain ⟨sl',e2⟩:=slot b _ (neL b o e) hb (neC b o e hx) e1 (I.base.free b o e n hx)
  exact ⟨sl',e2⟩
 ·obtain ⟨o',e1⟩:=I.base.there b o e hx
  exact free b o' (neC b o e hx) e1 (I.base.free b o e n hx)
 ·obtain ⟨o',e1⟩:=I.base.there b o e hx
  exact there b o' (neC b o e hx) e1
 ·obtain ⟨m1,e1⟩:=I.base.tbls b ps e
  obtain ⟨m2,e2⟩:=tbls b _ e1
  exact ⟨m1++m2,by rw [e2,Array.append_assoc]⟩
 ·obtain ⟨m,hn,hl⟩:=I.loc
  refine ⟨m,ns m hn,fun i x v e1 e2 e3=>?_⟩
  obtain ⟨u,r,l⟩:=hl i x v e1 e2 e3
  refine ⟨u,r,?_⟩
  rcases l with l | ⟨k,c,e,z⟩
  ·exact .inl l
  ·exact .inr ⟨k,c,e,cellK x c e _ z⟩
 ·obtain ⟨v,z⟩:=I.cell x c e
  exact ⟨v,cellK x c e v z⟩
 ·obtain ⟨m,⟨o,_,_,ho,_⟩,_⟩:=I.loc
  exact free _ o (fun z=>(hch _ z).2.1 rfl) ho I.free
 ·obtain ⟨v,o,ho,hd⟩:=I.cell x c e
  exact free c o (fun z=>(hch c z).2.2.1 x c e rfl) ho (I.freeC x c e)
 ·obtain ⟨e,n,ne,nf,d⟩:=I.pin p hp
  have nch:p.1∉ch:=fun z=>(hch p.1 z).2.2.2 p hp rfl
  exact ⟨keep p.1 p.2 ne nf nch e n,free p.1 p.2 nch e n,ne,nf,d⟩
theorem Inv.un {t':Nat} (I:Inv X pins σ H s) (u:Un X.fs [] H H' s.heap h') (hok:HOk X.prog X.w H' h'):Inv X pins σ H' {s with heap:=h',toks:=t'}:=by
 obtain ⟨m,⟨o,es,ep,ho,r⟩,_⟩:=id I.loc
 obtain ⟨sl,hL⟩:=u.any ho I.free (by simp)
 exact I.step (g':=s.gens) (d':=s.drawn) (ch:=[]) (fun _ z=>nomatch z) (fun b o _ hb _ e n=>u.keep b o e n hb (by simp)) (fun b o _ hb _ e n=>u.slot b o e n hb (by simp)) (fun b o _ e n=>u.free b o e n (by simp)) (fun b o _ e=>u.there b o e (by simp)) u.tups u.frzs u.tbls (fun m' hm=>by
  obtain ⟨o',es',ep',ho',r'⟩:=hm
  rw [ho] at ho';cases ho'
  exact ⟨_,es',ep',hL,r'⟩) hok I.bare
theorem Inv.call {g':Array GenState} {t':Nat} {d':Drawn} {ch:List Addr} (I:Inv X pins σ H s) (u:Un (frs X.stack) ch H H' s.heap h') (hok:HOk X.prog X.w H' h') (hg:AllBare g')
  (hch:∀b∈ch,(b∈X.ex∨X.s₀.heap.objs.size≤b)∧b≠X.env.locals∧(∀x c,X.env.cells.lookup x=some c→c≠b)∧∀p∈X.pn++pins,p.1≠b):
  Inv X pins σ H' {s with heap:=h',gens:=g',drawn:=d',toks:=t'}:=by
 obtain ⟨m,⟨o,es,ep,ho,r⟩,_⟩:=id I.loc
 obtain ⟨sl,hL⟩:=u.any ho I.free fun z=>(hch _ z).2.1 rfl
 exact I.step (ch:=ch) hch (fun b o hL hb hc e n=>u.keep b o e n (fun z=>(List.mem_cons.mp (I.gM b z)).elim hL hb) hc) (fun b o _ _ hc e n=>u.any e n hc) (fun b o hc e n=>u.free b o e n hc) (fun b o hc e=>u.there b o e hc) u.tups u.frzs u.tbls (fun m' hm=>by
  obtain ⟨o',es',ep',ho',r'⟩:=hm
  rw [ho] at ho';cases ho'
  exact ⟨_,es',ep',hL,r'⟩) hok hg
theorem Inv.turned {t':Nat} {it:Addr} (I:Inv X pins σ H s) (k:∀b o,b≠it→s.heap.get? b=some o→h'.get? b=some o) (hn:H it=none) (hL:it≠X.env.locals)
  (h1:it∈X.ex∨X.s₀.heap.objs.size≤it) (h2:∀x c,X.env.cells.lookup x=some c→c≠it) (h3:∀p∈X.pn++pins,p.1≠it):Inv X pins σ H {s with heap:=h',toks:=t'}:=by
 have nit:∀b u,H b=some u→b≠it:=fun b u e z=>by rw [z,hn] at e;cases e
 refine I.step (g':=s.gens) (d':=s.drawn) (ch:=[it]) (fun b hb=>?_) (fun b o _ _ hc e _=>k b o (fun z=>hc (by simp [z])) e) (fun b o _ _ hc e _=>⟨o.slots,k b o (fun z=>hc (by simp [z])) e⟩) (fun _ _ _ _ n=>n)
  (fun b o hc e=>⟨o,k b o (fun z=>hc (by simp [z])) e⟩) (fun _ _ e=>e) (fun _ _ _ e=>e) (fun b ps e=>⟨#[],by rw [e];simp⟩) (fun m hm=>?_) (fun b u e=>?_) I.bare
 ·have e:b=it:=by simpa using hb
  subst e
  exact ⟨h1,hL,h2,h3⟩
 ·obtain ⟨o,es,ep,ho,r⟩:=hm
  exact ⟨o,es,ep,k _ o (Ne.symm hL) ho,r⟩
 ·refine (I.hok b u e).iD (fun c v hc q=>k c v ?_ q) (fun _ q=>q) fun _ _ q=>q
  rcases hc with z | z
  ·rw [z];exact nit b u e
  ·exact nit c _ z
theorem Inv.tok (I:Inv X pins σ H s) (t:Nat):Inv X pins σ H {s with toks:=t}:=I.un (h':=s.heap) (t':=t) Un.refl I.hok
theorem Inv.kept {t':Nat} (I:Inv X pins σ H s) (k:∀b u,s.heap.get? b=some u→h'.get? b=some u):Inv X pins σ H {s with heap:=h',toks:=t'}:=I.un (Un.kept k) (I.hok.kept k)
theorem Inv.laid {a:Addr} {o:HO} {t':Nat} (I:Inv X pins σ H s) (k:∀b u,s.heap.get? b=some u→h'.get? b=some u) (hp:s.heap.objs.size≤a) (new:a8 X.prog X.w (upd H a o) h' a o):
  Inv X pins σ (upd H a o) {s with heap:=h',toks:=t'}:=I.un (Un.laid k hp (I.hok.fresh hp)) (I.hok.laid k hp new)
theorem Inv.write {x e:Addr} {o:HO} {t':Nat} (I:Inv X pins σ H s) (mu:Mut (H x)) (he:e=x∨H e=some (.own x)) (k:∀b u,b≠e→s.heap.get? b=some u→h'.get? b=some u) (heo:∃u,h'.get? e=some u)
  (new:a8 X.prog X.w (upd H x o) h' x o):Inv X pins σ (upd H x o) {s with heap:=h',toks:=t'}:=I.un (Un.write mu he k heo) (I.hok.write mu he k heo new)
theorem Inv.p7 {pins':List (Addr×Obj)} (I:Inv X pins σ H s) (h:∀p∈pins',s.heap.get? p.1=some p.2∧H p.1=none∧p.1≠X.env.locals∧p.1∉X.fs∧∀v,p.2.data≠.cell v):Inv X pins' σ H s:=
 ⟨I.ok,I.os,I.bare,I.base,I.loc,I.cell,I.free,I.freeC,fun p hp=>(List.mem_append.mp hp).elim (fun z=>I.pin p (List.mem_append_left _ z)) (h p),I.hok,I.len⟩
theorem nK {N:List Str} (hN:N.Nodup) {i j:Nat} {x:Str} (a:N[i]?=some x) (b:N[j]?=some x):i=j:=by
 obtain ⟨h1,e1⟩:=List.getElem?_eq_some_iff.mp a
 obtain ⟨h2,e2⟩:=List.getElem?_eq_some_iff.mp b
 exact (List.getElem_inj hN).mp (e1.trans e2.symm)
theorem qO {M:Model} {A:Around} {E:Value→Shared→Prop} {i:Nat} {x:Str} {v:V} {u:Value} {Q:Unit→Shared→Prop} (I:Inv X pins σ H s) (hN:X.N.Nodup) (hi:X.N[i]?=some x) (hx:Loc X.env.scope x) (r:RelV v u)
  (h:∀s',Inv X pins (σ.set i (some v)) H s'→(∃a,Heap.SameBut a s.heap s'.heap∧(a=X.env.locals∨X.env.cells.lookup x=some a))→Q () s') (hf:X.fn x=true∨X.env.scope.names.lookup x=some .local:=by first | exact .inl rfl | exact .inr rfl | assumption):wpAny M A (storeName X.env x u) Q E s:=by
 obtain ⟨m,hn,hl⟩:=id I.loc
 have hcls:(X.env.scope.kind==.class||(X.env.scope.kind==.module&&X.env.locals !=X.env.globals))=false:=by rw [I.ok.kind];rfl
 have hiσ:i < σ.length:=by rw [I.len];exact (List.getElem?_eq_some_iff.mp hi).1
 have cne:=I.cne
 have tracked:∀{a:Addr} {h':Heap},(∃o,s.heap.get? a=some o∧H a=none)→Heap.SameBut a s.heap h'→HOk X.prog X.w H h':=fun {a h'} ha hs b ob e=>by
  obtain ⟨_,_,hfree⟩:=ha
  refine (I.hok b ob e).iD (fun c w' hc q=>(hs.2 c ?_).trans q) (fun _ q=>q) fun _ _ q=>q
  rintro rfl
  rcases hc with rfl | hc
  ·rw [hfree] at e;cases e
  ·rw [hfree] at hc;cases hc
 rcases hx with hk | hk
 ·refine wpAny_storeName_local hk hn (fun h' hn' hs=>?_) hcls
  obtain ⟨oL,_,_,hoL,_⟩:=id hn
  refine h _ ⟨I.ok,I.os,I.bare,⟨fun b o e n hb hx=>?_,fun b o e n hb hx=>?_,I.base.free,fun b o e hx=>?_,I.base.tups,I.base.frzs,I.base.tbls⟩,⟨_,hn',fun j y v' e1 e2 e3=>?_⟩,fun y c e=>?_,I.free,I.freeC,fun p hp=>?_,tracked ⟨oL,hoL,I.free⟩ hs,by simpa using I.len⟩ ⟨_,hs,.inl rfl⟩
  ·exact (hs.2 b (Nat.ne_of_lt (Nat.lt_of_lt_of_le (Heap.lt_size e) I.ok.above))).trans (I.base.keep b o e n hb hx)
  ·obtain ⟨sl,e1⟩:=I.base.slot b o e n hb hx
   exact ⟨sl,(hs.2 b (Nat.ne_of_lt (Nat.lt_of_lt_of_le (Heap.lt_size e) I.ok.above))).trans e1⟩
  ·obtain ⟨o',e1⟩:=I.base.there b o e hx
   exact ⟨o',(hs.2 b (Nat.ne_of_lt (Nat.lt_of_lt_of_le (Heap.lt_size e) I.ok.above))).trans e1⟩
  ·by_cases hj:j=i
   ·subst hj
    rw [hi] at e1;cases e1
    rw [List.getElem?_set_self hiσ] at e2
    cases e2
    exact ⟨u,r,.inl ⟨hk,by simp⟩⟩
   ·rw [List.getElem?_set_ne (Ne.symm hj)] at e2
    obtain ⟨u',r',q⟩:=hl j y v' e1 e2 e3
    refine ⟨u',r',?_⟩
    rcases q with ⟨k,e⟩ | ⟨k,c,e,z⟩
    ·refine .inl ⟨k,?_⟩
     have:y≠x:=fun e=>hj (nK hN e1 (e ▸ hi))
     simp [this,e]
    ·exact .inr ⟨k,c,e,z.sameBut hs (cne y c e)⟩
  ·obtain ⟨w',z⟩:=I.cell y c e
   exact ⟨w',z.sameBut hs (cne y c e)⟩
  ·obtain ⟨e,n,ne,nf,d⟩:=I.pin p hp
   exact ⟨(hs.2 p.1 ne).trans e,n,ne,nf,d⟩
 ·have hfn:X.fn x=true:=by
   rcases hf with z | z
   ·exact z
   ·rw [z] at hk;cases hk
  obtain ⟨c,hc⟩:=I.ok.has x (.inl hk)
  obtain ⟨w',z⟩:=I.cell x c hc
  refine wpAny_storeName_cell I.ok.kind hk hc z (fun h' hc' hs=>?_)
  obtain ⟨oc,hoc,hocd⟩:=id z
  refine h {s with heap:=h'} ⟨I.ok,I.os,I.bare,⟨fun b o e n hb hx=>?_,fun b o e n hb hx=>?_,I.base.free,fun b o e hx=>?_,I.base.tups,I.base.frzs,I.base.tbls⟩,⟨m,hn.sameBut hs (Ne.symm (cne x c hc)),fun j y v' e1 e2 e3=>?_⟩,fun y c' e=>?_,I.free,I.freeC,fun p hp=>?_,tracked ⟨oc,hoc,I.freeC x c hc⟩ hs,by simpa using I.len⟩ ⟨c,hs,.inr hc⟩
  ·exact (hs.2 b (Nat.ne_of_lt (Nat.lt_of_lt_of_le (Heap.lt_size e) (I.ok.cab x c hfn hc)))).trans (I.base.keep b o e n hb hx)
  ·obtain ⟨sl,e1⟩:=I.base.slot b o e n hb hx
   exact ⟨sl,(hs.2 b (Nat.ne_of_lt (Nat.lt_of_lt_of_le (Heap.lt_size e) (I.ok.cab x c hfn hc)))).trans e1⟩
  ·obtain ⟨o',e1⟩:=I.base.there b o e hx
   exact ⟨o',(hs.2 b (Nat.ne_of_lt (Nat.lt_of_lt_of_le (Heap.lt_size e) (I.ok.cab x c hfn hc)))).trans e1⟩
  ·by_cases hj:j=i
   ·subst hj
    rw [hi] at e1;cases e1
    rw [List.getElem?_set_self hiσ] at e2
    cases e2
    exact ⟨u,r,.inr ⟨.inl hk,c,hc,hc'⟩⟩
   ·rw [List.getElem?_set_ne (Ne.symm hj)] at e2
    obtain ⟨u',r',q⟩:=hl j y v' e1 e2 e3
    refine ⟨u',r',?_⟩
    rcases q with q | ⟨k,c',e,z'⟩
    ·exact .inl q
    ·refine .inr ⟨k,c',e,z'.sameBut hs ?_⟩
     rintro rfl
     exact hj (nK hN e1 (I.ok.inj _ _ _ e hc ▸ hi))
  ·by_cases hcc:c'=c
   ·subst hcc;exact ⟨_,hc'⟩
   ·obtain ⟨w2,z2⟩:=I.cell y c' e
    exact ⟨w2,z2.sameBut hs hcc⟩
  ·obtain ⟨e,n,ne,nf,d⟩:=I.pin p hp
   refine ⟨(hs.2 p.1 ?_).trans e,n,ne,nf,d⟩
   intro q
   rw [q,hoc] at e
   have q':oc=p.2:=Option.some.inj e
   exact d w' (by rw [←q'];exact hocd)
theorem mY {M:Model} {A:Around} {E:Value→Shared→Prop} {i:Nat} {x:Str} {v:V} {u:Value} {Q:Unit→Shared→Prop} (I:Inv X pins σ H s) (hN:X.N.Nodup) (hi:X.N[i]?=some x) (hx:Loc X.env.scope x) (r:RelV v u)
  (h:∀s',Inv X pins (σ.set i (some v)) H s'→Q () s') (hf:X.fn x=true∨X.env.scope.names.lookup x=some .local:=by first | exact .inl rfl | exact .inr rfl | assumption):wpAny M A (storeName X.env x u) Q E s:=
 qO I hN hi hx r (fun s' I' _=>h s' I') hf
theorem Inv.call' {s':Shared} {ch:List Addr} (I:Inv X pins σ H s) (ho:s'.os=s.os) (u:Un (frs X.stack) ch H H' s.heap s'.heap) (hok:HOk X.prog X.w H' s'.heap) (hg:AllBare s'.gens)
  (hch:∀b∈ch,(b∈X.ex∨X.s₀.heap.objs.size≤b)∧b≠X.env.locals∧(∀x c,X.env.cells.lookup x=some c→c≠b)∧∀p∈X.pn++pins,p.1≠b):Inv X pins σ H' s':=by
 obtain ⟨h',g',d',t',o'⟩:=s'
 have e:o'=s.os:=ho
 subst e
 exact I.call (g':=g') (t':=t') (d':=d') u hok hg hch
end
abbrev XK:=Value→Option Addr→Hp→Prop
abbrev St:=List (Option V)
abbrev VK:=V→Hp→Prop
abbrev TE:=St→Hp→VK→Prop
abbrev TT:=St→Hp→(Bool→Hp→Prop)→Prop
abbrev TA:=St→Hp→(List V→Hp→Prop)→Prop
structure Ends where
 nx:St→Hp→Prop
 rt:VK
 bk:St→Hp→Prop:=fun _ _=>False
 ct:St→Hp→Prop:=fun _ _=>False
abbrev TS:=Ends→St→Hp→Prop
inductive EPi (X:Cx) (pins:List (Addr×Obj)) (σ:St) (Q:VK) (u:Value) (s':Shared):Prop where
 | mk (v H'):Inv X pins σ H' s'→RelV v u→Q v H'→EPi X pins σ Q u s'
def EP (X:Cx) (pins:List (Addr×Obj)) (σ:St) (Q:VK) (u:Value) (s':Shared):Prop:=EPi X pins σ Q u s'
def TP (X:Cx) (pins:List (Addr×Obj)) (σ:St) (Q:Bool→Hp→Prop) (b:Bool) (s':Shared):Prop:=∃H',Inv X pins σ H' s'∧Q b H'
inductive APi (X:Cx) (pins:List (Addr×Obj)) (σ:St) (Q:List V→Hp→Prop) (us:List Value) (s':Shared):Prop where
 | mk (vs H'):Inv X pins σ H' s'→Vals vs us→Q vs H'→APi X pins σ Q us s'
def AP (X:Cx) (pins:List (Addr×Obj)) (σ:St) (Q:List V→Hp→Prop) (us:List Value) (s':Shared):Prop:=APi X pins σ Q us s'
def SP (X:Cx) (pins:List (Addr×Obj)) (D:Ends) (f:Flow) (s':Shared):Prop:=
 match f with
 | .next=>∃σ' H',Inv X pins σ' H' s'∧D.nx σ' H'
 | .brk=>∃σ' H',Inv X pins σ' H' s'∧D.bk σ' H'
 | .cont=>∃σ' H',Inv X pins σ' H' s'∧D.ct σ' H'
 | .ret u=>∃v σ' H',Inv X pins σ' H' s'∧RelV v u∧D.rt v H'
def PE (X:Cx) (e:Expr) (t:TE):Prop:=
 ∀(pins:List (Addr×Obj)) (s:Shared) (σ:St) (H:Hp) (Q:VK),Inv X pins σ H s→t σ H Q→wpAny (model X.prog X.w) X.A (eval e X.env) (EP X pins σ Q) X.xe s
def PT (X:Cx) (e:Expr) (t:TT):Prop:=
 ∀(pins:List (Addr×Obj)) (s:Shared) (σ:St) (H:Hp) (Q:Bool→Hp→Prop),Inv X pins σ H s→t σ H Q→wpAny (model X.prog X.w) X.A (isTrue e X.env (eval e X.env)) (TP X pins σ Q) X.xe s
def PW (X:Cx) (e:Expr) (t:TT):Prop:=
 ∀(whole:Sem Value) (pins:List (Addr×Obj)) (s:Shared) (σ:St) (H:Hp) (Q:Bool→Hp→Prop),Inv X pins σ H s→t σ H Q→wpAny (model X.prog X.w) X.A (isTrue e X.env whole) (TP X pins σ Q) X.xe s
theorem PW.pt {X:Cx} {e:Expr} {t:TT} (h:PW X e t):PT X e t:=h _
def PA (X:Cx) (es:List Expr) (t:TA):Prop:=
 ∀(pos:Pos) (pins:List (Addr×Obj)) (s:Shared) (σ:St) (H:Hp) (Q:List V→Hp→Prop),Inv X pins σ H s→t σ H Q→wpAny (model X.prog X.w) X.A (spliced (backTo pos (starEach es X.env))) (AP X pins σ Q) X.xe s
def PS (X:Cx) (st:Stmt) (t:TS):Prop:=
 ∀(pins:List (Addr×Obj)) (s:Shared) (σ:St) (H:Hp) (D:Ends),Inv X pins σ H s→t D σ H→wpAny (model X.prog X.w) X.A (exec st X.env) (SP X pins D) X.xe s
def PSs (X:Cx) (st:List Stmt) (t:TS):Prop:=
 ∀(pins:List (Addr×Obj)) (s:Shared) (σ:St) (H:Hp) (D:Ends),Inv X pins σ H s→t D σ H→wpAny (model X.prog X.w) X.A (execs st X.env) (SP X pins D) X.xe s
theorem thn {α:Type} {t:Sem α} {Q Q':α→Shared→Prop} {M:Model} {A:Around} {E:Value→Shared→Prop} {s:Shared} (h:wpAny M A t Q E s) (hQ:∀a s,Q a s→Q' a s):wpAny M A t Q' E s:=wpAny_mono h hQ fun _ _ x=>x
end L2
namespace L2
open PySem PySem.Spec PyProof.Rows
section
variable {X:Cx}
def i0 (i:Nat):TE:=fun σ H Q=>∃v,σ[i]?=some (some v)∧Q v H
def tC (v:V):TE:=fun _ H Q=>Q v H
theorem tN {i:Nat} {x:Str} {pos:Pos} (hN:X.N[i]?=some x) (hv:Vis X.env.scope x) (hd:(x==("__debug__":Str))=false:=by decide) (hcd:(x==("__classdict__":Str))=false:=by decide):PE X (.Name x pos) (i0 i):=by
 intro pins s σ H Q I h
 obtain ⟨v,e,h⟩:=h
 obtain ⟨m,hn,hl⟩:=I.loc
 obtain ⟨u,r,l⟩:=hl i x v hN e hv
 have fin:EP X pins σ Q u s:=⟨v,H,I,r,h⟩
 rcases l with ⟨hk,hm⟩ | ⟨hk,c,hc,hcell⟩
 ·exact wpAny_Name (wpAny_loadName_local I.ok.kind hk hn hm fin) hd
 ·rcases hk with hk | hk
  ·exact wpAny_Name (wpAny_loadName_cell I.ok.kind hk hc hcell fin) hd
  ·exact wpAny_Name (wpAny_loadName_free I.ok.kind hk hc hcell fin hcd) hd
theorem yu {i j pos}:PE X (.Constant (.int i) j pos) (tC (.int i)):=fun _ _ _ H _ I h=>wpAny_Constant_int ⟨.int i,H,I.tok _,⟨_,rfl⟩,h⟩
theorem Ao {b j pos}:PE X (.Constant (.bool b) j pos) (tC (.bl b)):=fun _ _ _ H _ I h=>Constant_bool ⟨.bl b,H,I,rfl,h⟩
theorem yr {j pos}:PE X (.Constant .none j pos) (tC .non):=fun _ _ _ H _ I h=>Constant_none ⟨.non,H,I,rfl,h⟩
theorem yo {x j pos}:PE X (.Constant (.str x) j pos) (tC (.str x)):=fun _ _ _ H _ I h=>Calls.Constant_str ⟨.str x,H,I.tok _,⟨_,rfl⟩,h⟩
def Gl (X:Cx) (x:Str):Prop:=X.env.kindOf x=some .globalImplicit
theorem wo {E:Value→Shared→Prop} {pins:List (Addr×Obj)} {s:Shared} {σ:St} {H:Hp} {x:Str} {u:Value} {pos:Pos} {Q:Value→Shared→Prop} (I:Inv X pins σ H s) (hg:Gl X x) (hm:X.mg x=some u) (h:Q u s)
  (hd:(x==("__debug__":Str))=false:=by decide):wpAny (model X.prog X.w) X.A (eval (.Name x pos) X.env) Q E s:=
 Calls.Name_function_global I.ok.kind hg (Calls.loadGlobal_global (by rw [I.ok.glob];exact I.mod.glob.keeps I.bk) hm h) hd
theorem fU {E:Value→Shared→Prop} {pins:List (Addr×Obj)} {s:Shared} {σ:St} {H:Hp} {x:Str} {u:Value} {pos:Pos} {Q:Value→Shared→Prop} (I:Inv X pins σ H s) (hg:Gl X x) (hm:X.mg x=none) (hv:bootBuiltins x=some u) (h:Q u s)
  (hn:x≠"__name__":=by decide) (hd:(x==("__debug__":Str))=false:=by decide):wpAny (model X.prog X.w) X.A (eval (.Name x pos) X.env) Q E s:=by
 obtain ⟨mb,h1,h2⟩:=I.mod.blt
 exact Calls.Name_function_global I.ok.kind hg (Calls.loadGlobal_builtin (by rw [I.ok.glob];exact I.mod.glob.keeps I.bk) hm (by rw [I.ok.blt];exact h1.keeps I.bk) ((h2 x hn).trans hv) h) hd
theorem wa {x:Str} {v:V} {u:Value} {pos:Pos} (hg:Gl X x) (hm:X.mg x=none) (hv:bootBuiltins x=some u) (r:RelV v u) (hn:x≠"__name__":=by decide) (hd:(x==("__debug__":Str))=false:=by decide):PE X (.Name x pos) (tC v):=
 fun _ _ _ H _ I h=>fU I hg hm hv ⟨v,H,I,r,h⟩ hn hd
variable {a b:Expr} {ta tb:TE} {pos:Pos}
variable {tA tB':TT} {rest:List Expr}
def mW (t u:TT):TT:=fun σ H Q=>t σ H fun c H1=>if c=true then u σ H1 Q else Q false H1
def tOr (t u:TT):TT:=fun σ H Q=>t σ H fun c H1=>if c=true then Q true H1 else u σ H1 Q
def qL (t:TT):TT:=fun σ H Q=>t σ H fun c H1=>Q (!c) H1
theorem vG (ha:PT X a tA):PW X (.BoolOp .And [a] pos) tA:=by
 intro wh pins s σ H Q I h
 refine isTrue_and (thn (ha pins s σ H Q I h) fun c s1 e=>?_)
 cases c with
 | true=>exact isTrue_and_nil e
 | false=>exact e
theorem yd (ha:PT X a tA):PW X (.BoolOp .Or [a] pos) tA:=by
 intro wh pins s σ H Q I h
 refine isTrue_or (thn (ha pins s σ H Q I h) fun c s1 e=>?_)
 cases c with
 | false=>exact isTrue_or_nil e
 | true=>exact e
theorem ye (ha:PT X a tA) (hb:PW X (.BoolOp .And (b::rest) pos) tB'):PW X (.BoolOp .And (a::b::rest) pos) (mW tA tB'):=by
 intro wh pins s σ H Q I h
 refine isTrue_and (thn (ha pins s σ H _ I h) fun c s1 ⟨H1,I1,q1⟩=>?_)
 cases c with
 | true=>exact hb wh pins s1 σ H1 Q I1 q1
 | false=>exact ⟨H1,I1,q1⟩
theorem Ah (ha:PT X a tA) (hb:PW X (.BoolOp .Or (b::rest) pos) tB'):PW X (.BoolOp .Or (a::b::rest) pos) (tOr tA tB'):=by
 intro wh pins s σ H Q I h
 refine isTrue_or (thn (ha pins s σ H _ I h) fun c s1 ⟨H1,I1,q1⟩=>?_)
 cases c with
 | true=>exact ⟨H1,I1,q1⟩
 | false=>exact hb wh pins s1 σ H1 Q I1 q1
theorem yf (ha:PT X a tA):PT X (.UnaryOp .Not a pos) (qL tA):=by
 intro pins s σ H Q I h
 exact isTrue_not (ha pins s σ H (fun c H1=>Q (!c) H1) I h)
def zK (ta tb:TE):TE:=fun σ H Q=>ta σ H fun x H1=>∃c,x=.bl c∧if c=true then tb σ H1 Q else Q (.bl false) H1
def Bc (ta tb:TE):TE:=fun σ H Q=>ta σ H fun x H1=>∃c,x=.bl c∧if c=true then Q (.bl true) H1 else tb σ H1 Q
theorem yq {op} {t:TE} (h:PE X a t):PE X (.BoolOp op [a] pos) t:=fun pins s σ H Q I hw=>BoolOp_one (h pins s σ H Q I hw)
theorem yw (ha:PE X a ta) (hb:PE X (.BoolOp .And (b::rest) pos) tb):PE X (.BoolOp .And (a::b::rest) pos) (zK ta tb):=by
 intro pins s σ H Q I h
 refine BoolOp_and (thn (ha pins s σ H _ I h) fun v s1 ⟨x,H1,I1,r1,q1⟩=>?_)
 obtain ⟨c,rfl,q1⟩:=q1
 cases r1
 refine wpAny_truthy_bool ?_
 cases c with
 | true=>exact hb pins s1 σ H1 Q I1 q1
 | false=>exact ⟨.bl false,H1,I1,rfl,q1⟩
theorem Ak (ha:PE X a ta) (hb:PE X (.BoolOp .Or (b::rest) pos) tb):PE X (.BoolOp .Or (a::b::rest) pos) (Bc ta tb):=by
 intro pins s σ H Q I h
 refine BoolOp_or (thn (ha pins s σ H _ I h) fun v s1 ⟨x,H1,I1,r1,q1⟩=>?_)
 obtain ⟨c,rfl,q1⟩:=q1
 cases r1
 refine wpAny_truthy_bool ?_
 cases c with
 | false=>exact hb pins s1 σ H1 Q I1 q1
 | true=>exact ⟨.bl true,H1,I1,rfl,q1⟩
def tIf (t:TT) (ta tb:TE):TE:=fun σ H Q=>t σ H fun c H1=>if c=true then ta σ H1 Q else tb σ H1 Q
theorem tQ {c:Expr} (hc:PT X c tA) (ha:PE X a ta) (hb:PE X b tb):PE X (.IfExp c a b pos) (tIf tA ta tb):=by
 intro pins s σ H Q I h
 refine wpAny_IfExp (thn (hc pins s σ H _ I h) fun d s1 ⟨H1,I1,q1⟩=>?_)
 cases d with
 | true=>exact ha pins s1 σ H1 Q I1 q1
 | false=>exact hb pins s1 σ H1 Q I1 q1
end
end L2
namespace L2
open PySem PySem.Spec PyProof.Rows
def SqL (K:PySem.W.Frag) (H:Hp) (a:Addr) (xs:List V):Prop:=
 Rd H a (.lst xs)∨
  ∃(o:Obj) (its:Array Value) (n:Nat),K.lookup a=some o∧o.cls=.type "list"∧o.dict=none∧o.data=.seq its n∧its.size≤sizeLine∧Vals xs its.toList
def SqT (K:PySem.W.Frag) (H:Hp) (a:Addr) (xs:List V):Prop:=
 Rd H a (.tup xs)∨
  ∃(o:Obj) (its:Array Value) (n:Nat),K.lookup a=some o∧o.cls=.type "tuple"∧o.data=.seq its n∧its.size≤sizeLine∧Vals xs its.toList∧o.dict=none
def BW:Value→Option V
 | .none=>some .non
 | .bool b=>some (.bl b)
 | .int i _=>some (.int i)
 | .str x _=>some (.str x)
 | .bytes b _=>some (.byt b)
 | .float b _=>some (.flt b)
 | .ref a=>some (.ref a)
 | .type n=>some (.ty n)
 | _=>none
theorem RelV.abs {x:V} {u:Value} (r:RelV x u):BW u=some x:=by
 cases x with
 | non=>cases r;rfl
 | bl _=>cases r;rfl
 | int _=>obtain ⟨t,rfl⟩:=r;rfl
 | str _=>obtain ⟨t,rfl⟩:=r;rfl
 | byt _=>obtain ⟨t,rfl⟩:=r;rfl
 | flt _=>obtain ⟨t,rfl⟩:=r;rfl
 | ref _=>cases r;rfl
 | ty _=>cases r;rfl
theorem RelV.inj {x y:V} {u:Value} (r:RelV x u) (q:RelV y u):x=y:=Option.some.inj (r.abs.symm.trans q.abs)
theorem Vals.inj:∀{xs ys:List V} {us:List Value},Vals xs us→Vals ys us→xs=ys
 | _,_,_,.nil,.nil=>rfl
 | _,_,_,.cons r t,.cons r' t'=>by rw [r.inj r',Vals.inj t t']
section
variable {X:Cx} {pins:List (Addr×Obj)} {σ:St} {H:Hp} {s:Shared} {a:Addr} {xs ys:List V}
theorem SqL.of {K:PySem.W.Frag} (h:H a=some (.lst xs)):SqL K H a xs:=.inl (.inl h)
theorem Inv.list (I:Inv X pins σ H s) (h:SqL X.K H a xs):∃its:List Value,Vals xs its∧PlainL s.heap a its.toArray∧xs.length≤sizeLine:=by
 rcases h with h | ⟨o,its,n,hk,hc,hd,hs,hz,r⟩
 ·obtain ⟨z,its,n,r,e⟩:=h.ok I.hok
  exact ⟨its,r,⟨_,n,e,rfl,rfl,rfl⟩,z⟩
 ·refine ⟨its.toList,r,⟨o,n,I.kIn a o hk,hc,hd,by simpa using hs⟩,?_⟩
  have e:=r.length
  simp only [Array.length_toList] at e
  omega
theorem Inv.tuple (I:Inv X pins σ H s) (h:SqT X.K H a xs):∃its:List Value,Vals xs its∧IsTup s.heap a its.toArray∧xs.length≤sizeLine:=by
 rcases h with h | ⟨o,its,n,hk,hc,hs,hz,r,_⟩
 ·obtain ⟨z,its,r,p⟩:=h.ok I.hok
  exact ⟨its,r,p.tup,z⟩
 ·refine ⟨its.toList,r,⟨o,I.kIn a o hk,hc,n,by simpa using hs⟩,?_⟩
  have e:=r.length
  simp only [Array.length_toList] at e
  omega
theorem Inv.xu (I:Inv X pins σ H s) (h:SqT X.K H a xs):∃its:List Value,Vals xs its∧kj s.heap a its.toArray∧xs.length≤sizeLine:=by
 rcases h with h | ⟨o,its,n,hk,hc,hs,hz,r,hd⟩
 ·obtain ⟨z,its,r,p⟩:=h.ok I.hok
  exact ⟨its,r,p,z⟩
 ·refine ⟨its.toList,r,⟨o,I.kIn a o hk,hc,⟨n,by simpa using hs⟩,hd⟩,?_⟩
  have e:=r.length
  simp only [Array.length_toList] at e
  omega
theorem Inv.nU (I:Inv X pins σ H s) (h:SqL X.K H a xs) (h':SqL X.K H a ys):xs=ys:=by
 obtain ⟨its,r,⟨o,n,e,_,_,d⟩,_⟩:=I.list h
 obtain ⟨its',r',⟨o',n',e',_,_,d'⟩,_⟩:=I.list h'
 rw [e] at e';cases e'
 rw [d] at d'
 injection d' with d1 _
 have:its=its':=by simpa using congrArg Array.toList d1
 subst this
 exact r.inj r'
theorem Inv.kE (I:Inv X pins σ H s) (h:SqT X.K H a xs) (h':SqT X.K H a ys):xs=ys:=by
 obtain ⟨its,r,⟨o,e,_,n,d⟩,_⟩:=I.tuple h
 obtain ⟨its',r',⟨o',e',_,n',d'⟩,_⟩:=I.tuple h'
 rw [e] at e';cases e'
 rw [d] at d'
 injection d' with d1 _
 have:its=its':=by simpa using congrArg Array.toList d1
 subst this
 exact r.inj r'
end
abbrev Cx.jU (X:Cx) (E:Value→Shared→Prop):Cx:={X with xe:=E}
abbrev Cx.nox (X:Cx):Cx:=X.jU fun _ _=>False
theorem Cx.Ok.jU {X:Cx} (ok:X.Ok) (E:Value→Shared→Prop):(X.jU E).Ok:=
 ⟨ok.mod,ok.kind,ok.glob,ok.blt,ok.above,ok.inj,ok.has,ok.cab,ok.hd,ok.frames,ok.stk,ok.exf,ok.bs,ok.bsz,ok.noex,ok.exfs,ok.jA,ok.frf⟩
theorem Cx.Ok.eL {X:Cx} {E:Value→Shared→Prop} (ok:(X.jU E).Ok):X.Ok:=
 ⟨ok.mod,ok.kind,ok.glob,ok.blt,ok.above,ok.inj,ok.has,ok.cab,ok.hd,ok.frames,ok.stk,ok.exf,ok.bs,ok.bsz,ok.noex,ok.exfs,ok.jA,ok.frf⟩
section
variable {X:Cx} {pins:List (Addr×Obj)} {σ:St} {H:Hp} {s:Shared} {E:Value→Shared→Prop}
theorem Inv.jU (I:Inv X pins σ H s) (E:Value→Shared→Prop):Inv (X.jU E) pins σ H s:=⟨I.ok.jU E,I.os,I.bare,I.base,I.loc,I.cell,I.free,I.freeC,I.pin,I.hok,I.len⟩
theorem Inv.eL (I:Inv (X.jU E) pins σ H s):Inv X pins σ H s:=⟨I.ok.eL,I.os,I.bare,I.base,I.loc,I.cell,I.free,I.freeC,I.pin,I.hok,I.len⟩
theorem SP.eL {D:Ends} {f:Flow} {s':Shared} (h:SP (X.jU E) pins D f s'):SP X pins D f s':=by
 cases f with
 | next=>obtain ⟨σ',H',I,q⟩:=h;exact ⟨σ',H',I.eL,q⟩
 | brk=>obtain ⟨σ',H',I,q⟩:=h;exact ⟨σ',H',I.eL,q⟩
 | cont=>obtain ⟨σ',H',I,q⟩:=h;exact ⟨σ',H',I.eL,q⟩
 | ret u=>obtain ⟨v,σ',H',I,r,q⟩:=h;exact ⟨v,σ',H',I.eL,r,q⟩
theorem PSs.nox {st:List Stmt} {t:TS} (h:PSs X.nox st t):PSs X st t:=fun pins s σ H D I hw=>
 wpAny_mono (h pins s σ H D (I.jU _) hw) (fun _ _ q=>q.eL) fun _ _ z=>False.elim z
end
section
variable {X:Cx} {st:Stmt} {rest:List Stmt} {t u:TS} {e:Expr} {te:TE} {pos:Pos}
def zG:TS:=fun D σ H=>D.nx σ H
def zC (t u:TS):TS:=fun D σ H=>t {D with nx:=u D} σ H
theorem vL:PSs X [] zG:=fun _ _ σ H _ I h=>wpAny_execs_nil ⟨σ,H,I,h⟩
theorem tF (h1:PS X st t) (h2:PSs X rest u):PSs X (st::rest) (zC t u):=by
 intro pins s σ H D I h
 refine wpAny_execs_cons (thn (h1 pins s σ H {D with nx:=u D} I h) fun f s1 q=>?_)
 cases f with
 | next=>
  obtain ⟨σ',H',I',q⟩:=q
  exact h2 pins s1 σ' H' D I' q
 | ret v=>exact q
 | brk=>exact q
 | cont=>exact q
theorem p6 (h1:PS X st t):PSs X [st] t:=by
 intro pins s σ H D I h
 refine wpAny_execs_cons (thn (h1 pins s σ H D I h) fun f s1 q=>?_)
 cases f with
 | next=>exact wpAny_execs_nil q
 | ret v=>exact q
 | brk=>exact q
 | cont=>exact q
def xD:TS:=fun D σ H=>D.bk σ H
theorem tI:PS X (.Break pos) xD:=fun _ _ σ H _ I h=>wpAny_Break ⟨σ,H,I,h⟩
theorem Inv.quiet {pins:List (Addr×Obj)} {σ:St} {H:Hp} {s:Shared} (I:Inv X pins σ H s):interactive X.env=false:=by simp [interactive,I.ok.kind]
def zI (te:TE):TS:=fun D σ H=>te σ H fun _ H1=>D.nx σ H1
theorem vN (he:PE X e te) (hs:swapsWith e none pos.line X.env=pure false:=by rfl):PS X (.Expr e pos) (zI te):=by
 intro pins s σ H D I h
 exact wpAny_Expr_any (thn (he pins s σ H _ I h) fun v s1 ⟨x,H1,I1,r1,q1⟩=>⟨σ,H1,I1,q1⟩) I.quiet hs
def Bb (te:TE):TS:=fun D σ H=>te σ H D.rt
theorem yh (he:PE X e te):PS X (.Return (some e) pos) (Bb te):=by
 intro pins s σ H D I h
 exact wpAny_Return_some (thn (he pins s σ H _ I h) fun v s1 ⟨x,H1,I1,r1,q1⟩=>⟨x,σ,H1,I1,r1,q1⟩)
def Bg (c:TT) (t u:TS):TS:=fun D σ H=>c σ H fun b H1=>if b=true then t D σ H1 else u D σ H1
theorem Ai {c:Expr} {a b:List Stmt} {tc:TT} (hc:PT X c tc) (ha:PSs X a t) (hb:PSs X b u):PS X (.If c a b pos) (Bg tc t u):=by
 intro pins s σ H D I h
 refine wpAny_If (thn (hc pins s σ H _ I h) fun d s1 ⟨H1,I1,q1⟩=>?_)
 cases d with
 | true=>exact ha pins s1 σ H1 D I1 q1
 | false=>exact hb pins s1 σ H1 D I1 q1
end
abbrev TG:=V→St→Hp→(St→Hp→Prop)→Prop
abbrev TGs:=List V→St→Hp→(St→Hp→Prop)→Prop
def PG (X:Cx) (target:Expr) (t:TG):Prop:=
 ∀(pins:List (Addr×Obj)) (s:Shared) (σ:St) (H:Hp) (v:V) (u:Value) (Q:St→Hp→Prop),Inv X pins σ H s→RelV v u→t v σ H Q→
  wpAny (model X.prog X.w) X.A (assign target X.env u) (fun _ s'=>∃σ' H',Inv X pins σ' H' s'∧Q σ' H') X.xe s
def PGs (X:Cx) (ts:List Expr) (t:TGs):Prop:=
 ∀(pins:List (Addr×Obj)) (s:Shared) (σ:St) (H:Hp) (vs:List V) (us:List Value) (Q:St→Hp→Prop),Inv X pins σ H s→Vals vs us→t vs σ H Q→
  wpAny (model X.prog X.w) X.A (assignInOrder ((assignEach ts X.env).map (·.2)) us) (fun _ s'=>∃σ' H',Inv X pins σ' H' s'∧Q σ' H') X.xe s
abbrev zj:=V→V→V→Hp→(Hp→Prop)→Prop
def zl (X:Cx) (t:zj):Prop:=
 ∀(pins:List (Addr×Obj)) (s:Shared) (σ:St) (H:Hp) (o i v:V) (ov iv u:Value) (Q:Hp→Prop),Inv X pins σ H s→RelV o ov→RelV i iv→RelV v u→t o i v H Q→
  wpAny (model X.prog X.w) X.A (setItem ov iv u) (fun _ s'=>∃H',Inv X pins σ H' s'∧Q H') X.xe s
section
variable {X:Cx} {pos:Pos}
def ql (i:Nat):TG:=fun v σ H Q=>Q (σ.set i (some v)) H
theorem p9 {i:Nat} {x:Str} (hN:X.N.Nodup) (hi:X.N[i]?=some x) (hx:Loc X.env.scope x) (hf:X.fn x=true∨X.env.scope.names.lookup x=some .local:=by first | exact .inl rfl | exact .inr rfl | assumption):PG X (.Name x pos) (ql i):=by
 intro pins s σ H v u Q I r h
 exact wpAny_assign_Name (mY I hN hi hx r (fun s' I'=>⟨_,H,I',h⟩) hf)
def BQ:TGs:=fun vs σ H Q=>vs=[]∧Q σ H
def AN (t:TG) (u:TGs):TGs:=fun vs σ H Q=>∃v r,vs=v::r∧t v σ H fun σ' H'=>u r σ' H' Q
theorem vY:PGs X [] BQ:=by
 intro pins s σ H vs us Q I r h
 obtain ⟨e,h⟩:=h
 subst e
 cases r
 exact assignInOrder_nil ⟨σ,H,I,h⟩
theorem tL {e:Expr} {es:List Expr} {t:TG} {u:TGs} (h1:PG X e t) (h2:PGs X es u)
  (hs:(assignEach (e::es) X.env).map (·.2)=assign e X.env::(assignEach es X.env).map (·.2):=by rfl):PGs X (e::es) (AN t u):=by
 intro pins s σ H vs us Q I r h
 obtain ⟨v,vr,e1,h⟩:=h
 subst e1
 cases r with
 | cons r rr=>
  rw [hs]
  refine assignInOrder_cons (thn (h1 pins s σ H _ _ _ I r h) fun _ s1 ⟨σ1,H1,I1,q1⟩=>?_)
  exact h2 pins s1 σ1 H1 _ _ Q I1 rr q1
def BP (K:PySem.W.Frag) (n:Nat) (t:TGs):TG:=fun v σ H Q=>∃a xs,v=.ref a∧SqT K H a xs∧xs.length=n∧t xs σ H Q
theorem yl {es:List Expr} {k:Nat} {t:TGs} {n:Nat} (hc:X.calm=true) (h:PGs X es t)
  (hn:(assignEach es X.env).length=n:=by rfl) (hst:(assignEach es X.env).findIdx? (·.1)=none:=by rfl):PG X (.Tuple es k pos) (BP X.K n t):=by
 intro pins s σ H v u Q I r hw
 obtain ⟨a,xs,e1,hq,hl,hw⟩:=hw
 subst e1
 cases r
 obtain ⟨its,rv,ht,hz⟩:=I.tuple hq
 refine assign_Tuple_tuple (I.ok.hd hc) ht (by simp [hn,←hl,rv.length]) hst fun h' hx=>?_
 have I1:Inv X pins σ H {s with heap:=h'}:=I.kept (t':=s.toks) fun b o e=>hx b o (Nat.ne_of_lt (Heap.lt_size e)) e
 exact h pins _ σ H xs _ Q I1 (by simpa using rv) hw
def fz (to ti:TE) (t:zj):TG:=fun v σ H Q=>to σ H fun o H1=>ti σ H1 fun i H2=>t o i v H2 fun H3=>Q σ H3
theorem ym {o i:Expr} {to ti:TE} {t:zj} (ho:PE X o to) (hi:PE X i ti) (hs:zl X t)
  (ha:∀v,assign (.Subscript o i pos) X.env v=(do
   let ov←holding [v] (eval o X.env)
   let iv←holding [v,ov] (eval i X.env)
   standAt pos
   holding [v,ov,iv] (setItem ov iv v)
   release [v,ov,iv] []):=by intro _;rfl):PG X (.Subscript o i pos) (fz to ti t):=by
 intro pins s σ H v u Q I r h
 rw [ha]
 refine wpAny_bind (wpAny_holding (thn (ho pins s σ H _ I h) fun ov s1 ⟨x,H1,I1,r1,q1⟩=>?_))
 refine wpAny_bind (wpAny_holding (thn (hi pins s1 σ H1 _ I1 q1) fun iv s2 ⟨y,H2,I2,r2,q2⟩=>?_))
 refine wpAny_bind (wpAny_standAt (wpAny_bind (wpAny_holding (thn (hs pins s2 σ H2 x y v ov iv u _ I2 r1 r2 r q2) fun _ s3 ⟨H3,I3,q3⟩=>?_))))
 exact wpAny_release ⟨σ,H3,I3,q3⟩
def xE (te:TE) (g:TG):TS:=fun D σ H=>te σ H fun x H1=>g x σ H1 D.nx
theorem yi {tg e:Expr} {te:TE} {g:TG} (he:PE X e te) (hg:PG X tg g) (hs:swapsWithSole [tg] e pos.line X.env=pure false:=by rfl) (hw:swappedStores [tg] e X.env=pure none:=by rfl)
  (h1:(assignEach [tg] X.env).map (·.2)=[assign tg X.env]:=by rfl):PS X (.Assign [tg] e pos) (xE te g):=by
 intro pins s σ H D I h
 refine wpAny_Assign_stores (thn (he pins s σ H _ I h) fun v s1 ⟨x,H1,I1,r1,q1⟩=>?_) hs hw
 rw [h1]
 exact thn (hg pins s1 σ H1 x v _ I1 r1 q1) fun _ s2 q=>q
theorem yg {i:Nat} {x:Str} {e:Expr} {te:TE} {pos':Pos} (hN:X.N.Nodup) (hi:X.N[i]?=some x) (hx:Loc X.env.scope x) (he:PE X e te) (hs:swapsWith e (some (.Name x pos')) pos.line X.env=pure false:=by rfl) (hf:X.fn x=true∨X.env.scope.names.lookup x=some .local:=by first | exact .inl rfl | exact .inr rfl | assumption):
  PS X (.Assign [.Name x pos'] e pos) (xE te (ql i)):=by
 intro pins s σ H D I h
 refine wpAny_Assign_Name (thn (he pins s σ H _ I h) fun v s1 ⟨y,H1,I1,r1,q1⟩=>?_) hs
 exact mY I1 hN hi hx r1 (fun s2 I2=>⟨_,H1,I2,q1⟩) hf
end
section
variable {X:Cx} {pos:Pos}
def sD (c:TT) (tb:TS):TS:=fun D σ H=>∃W:Nat→St→Hp→Prop,(∃m,W m σ H)∧∀m σ H,W m σ H→
 c σ H fun b H1=>if b=true then ∃N:St→Hp→Prop,(∀σ' H',N σ' H'→∃m',m' < m∧W m' σ' H')∧tb {D with nx:=N,ct:=N,bk:=D.nx} σ H1 else D.nx σ H1
theorem tG {c:Expr} {body:List Stmt} {tc:TT} {tb:TS} (hp:PassesOwn (model X.prog X.w) X.A X.env X.xe) (hc:PT X c tc) (hb:PSs X body tb):PS X (.While c body [] pos) (sD tc tb):=by
 intro pins s σ H D I h
 obtain ⟨W,⟨m0,w0⟩,turn⟩:=h
 refine wpAny_While (codeAny_whileLoop (fun n s'=>∃σ' H',Inv X pins σ' H' s'∧W n σ' H') ?_ m0 ⟨σ,H,I,w0⟩)
 rintro n s1 ⟨σ1,H1,I1,w1⟩
 refine wpAny_passesOwn hp (thn (hc pins s1 σ1 H1 _ I1 (turn n σ1 H1 w1)) fun b s2 ⟨H2,I2,q2⟩=>?_)
 cases b with
 | true=>
  obtain ⟨N,hN,q2⟩:=q2
  rw [if_pos rfl]
  refine wpAny_passesOwn hp (thn (hb pins s2 σ1 H2 _ I2 q2) fun f s3 q3=>?_)
  cases f with
  | next=>
   obtain ⟨σ3,H3,I3,n3⟩:=q3
   obtain ⟨m',hm,w3⟩:=hN σ3 H3 n3
   exact ⟨m',hm,σ3,H3,I3,w3⟩
  | cont=>
   obtain ⟨σ3,H3,I3,n3⟩:=q3
   obtain ⟨m',hm,w3⟩:=hN σ3 H3 n3
   exact ⟨m',hm,σ3,H3,I3,w3⟩
  | brk=>exact q3
  | ret v=>exact q3
 | false=>
  rw [if_neg Bool.false_ne_true]
  exact wpAny_execs_nil ⟨σ1,H2,I2,q2⟩
end
structure It where
 go:Nat→Hp→Prop
 yld:Nat→Hp→V→Hp→Prop
 stop:Nat→Hp→Prop
def dm (X:Cx) (pins:List (Addr×Obj)) (H:Hp) (b:Addr):Prop:=
 H b=none∧b≠X.env.locals∧b∉X.fs∧(b∈X.ex∨X.s₀.heap.objs.size≤b)∧(∀x c,X.env.cells.lookup x=some c→c≠b)∧∀p∈X.pn++pins,p.1≠b
theorem Inv.kd {X:Cx} {pins:List (Addr×Obj)} {σ:St} {H H':Hp} {s:Shared} {b:Addr} (I:Inv X pins σ H s) (hb:s.heap.objs.size≤b) (hn:H' b=none):dm X pins H' b:=by
 refine ⟨hn,Nat.ne_of_gt (Nat.lt_of_lt_of_le I.lt hb),I.BI hb,.inr (Nat.le_trans I.sz hb),fun x c e z=>?_,fun p hp z=>?_⟩
 ·obtain ⟨v,q⟩:=I.cell x c e
  exact absurd (Nat.lt_of_lt_of_le q.lt (by rw [z];exact hb)) (Nat.lt_irrefl _)
 ·exact absurd (Nat.lt_of_lt_of_le (Heap.lt_size (I.pin p hp).1) (by rw [z];exact hb)) (Nat.lt_irrefl _)
structure Turn (P:Program) (w:World) (K:PySem.W.Frag) (tg:Expr) (J:It) (fp:List Addr) (it:Addr) (tn:Nat→Heap→Prop):Prop where
 mem:it∈fp
 obj:∀i h,tn i h→∀b∈fp,∃o,h.get? b=some o∧∀v,o.data≠.cell v
 keep:∀i h h',tn i h→(∀b∈fp,∀o,h.get? b=some o→h'.get? b=some o)→tn i h'
 item:∀(X:Cx),X.prog=P→X.w=w→X.K=K→X.calm=true→∀(i:Nat) (pins:List (Addr×Obj)) (s:Shared) (σ:St) (H:Hp) (E:Value→Shared→Prop),Inv X pins σ H s→(∀b∈fp,dm X pins H b)→tn i s.heap→J.go i H→
  wpAny (model P w) X.A (pyNext (.ref it)) (fun r s1=>∃u,r=some u∧
   wpAny (model P w) X.A (letOwnedTupleGo tg (.ref it) u) (fun _ s2=>∃x H',Inv X pins σ H' s2∧RelV x u∧J.yld i H x H'∧tn (i+1) s2.heap∧∀b∈fp,H' b=none) E s1) E s
 done:∀(X:Cx),X.prog=P→X.w=w→X.K=K→X.calm=true→∀(i:Nat) (pins:List (Addr×Obj)) (s:Shared) (σ:St) (H:Hp) (E:Value→Shared→Prop),Inv X pins σ H s→(∀b∈fp,dm X pins H b)→tn i s.heap→J.stop i H→
  wpAny (model P w) X.A (pyNext (.ref it)) (fun r s1=>r=none∧Inv X pins σ H s1) E s
 self:∀(A:Around) (i:Nat) (s:Shared) (Q:Value→Shared→Prop) (E:Value→Shared→Prop),tn i s.heap→Q (.ref it) s→wpAny (model P w) A (pyIter (.ref it)) Q E s
abbrev TI:=St→Hp→(It→Hp→Prop)→Prop
def PIE (X:Cx) (pins:List (Addr×Obj)) (σ:St) (tg:Expr) (R:It→Hp→Prop) (itv:Value) (s2:Shared):Prop:=
 ∃(it:Addr) (fp:List Addr) (tn:Nat→Heap→Prop) (J:It) (H':Hp),itv=.ref it∧Inv X pins σ H' s2∧Turn X.prog X.w X.K tg J fp it tn∧tn 0 s2.heap∧(∀b∈fp,dm X pins H' b)∧R J H'
def PI (X:Cx) (tg iter:Expr) (wi:TI):Prop:=
 ∀(pins:List (Addr×Obj)) (s:Shared) (σ:St) (H:Hp) (R:It→Hp→Prop),Inv X pins σ H s→wi σ H R→
  wpAny (model X.prog X.w) X.A (eval iter X.env) (fun v s1=>wpAny (model X.prog X.w) X.A (pyIter v) (PIE X pins σ tg R) X.xe s1) X.xe s
theorem qk {M:Model} {A:Around} {E:Value→Shared→Prop} {s:Shared} {tg:Expr} {it:Addr} {u:Value} {o:Obj} {n:String} {vs:Array Value} {Q:Unit→Shared→Prop} (ho:s.heap.get? it=some o) (hc:o.cls=.type n) (hd:o.data=.fields vs)
  (hn:["enumerate","zip","dict_itemiterator","dict_reverseitemiterator","odict_iterator","itertools.zip_longest","itertools.pairwise"].contains n=false) (hQ:Q () s):wpAny M A (letOwnedTupleGo tg (.ref it) u) Q E s:=by
 unfold letOwnedTupleGo
 cases tg <;> first
  | exact wpAny_pure hQ
  | (cases u <;> first
    | exact wpAny_pure hQ
    | (refine wpAny_bind (wpAny_load ho ?_);rw [hc,hd];show wpAny M A (if (["enumerate","zip","dict_itemiterator","dict_reverseitemiterator","odict_iterator","itertools.zip_longest","itertools.pairwise"].contains n&&vs[0]?==some (rawInt _))=true then _ else _) Q E s;rw [if_neg (by intro h;rw [hn,Bool.false_and] at h;cases h)];exact wpAny_pure hQ))
def Itl (K:PySem.W.Frag) (a:Addr):It:=
 ⟨fun i H=>∃xs x,SqL K H a xs∧xs[i]?=some x,fun i H x H'=>H'=H∧∀xs,SqL K H a xs→xs[i]?=some x,fun i H=>∃xs,SqL K H a xs∧xs.length≤i⟩
def Itt (K:PySem.W.Frag) (a:Addr):It:=
 ⟨fun i H=>∃xs x,SqT K H a xs∧xs[i]?=some x,fun i H x H'=>H'=H∧∀xs,SqT K H a xs→xs[i]?=some x,fun i H=>∃xs,SqT K H a xs∧xs.length≤i⟩
def Itr (lo:Int) (n:Nat):It:=⟨fun i _=>i < n,fun i H x H'=>H'=H∧x=.int (lo+i),fun i _=>n≤i⟩
theorem qH {P:Program} {w:World} {K:PySem.W.Frag} {tg:Expr} (a it:Addr):Turn P w K tg (Itl K a) [it] it (fun i h=>h.IsListIter it a i) where
 mem:=by simp
 obj:=fun i h st b hb=>by
  have e:b=it:=by simpa using hb
  subst e
  obtain ⟨o,e,c,d⟩:=st
  exact ⟨o,e,fun v z=>by rw [d] at z;cases z⟩
 keep:=fun i h h' st k=>st.at fun o e=>k it (by simp) o e
 item:=by
  intro X hP hw hK hc i pins s σ H E I hf st hg
  subst hP hw hK
  obtain ⟨xs,x,hq,hx⟩:=hg
  obtain ⟨its,rv,p,hz⟩:=I.list hq
  obtain ⟨u,hu,ru⟩:=rv.get hx
  obtain ⟨f0,f1,f2,f3,f4,f5⟩:=hf it (by simp)
  refine wpAny_pyNext_list_item st p.isList (x:=u) (by simpa using hu) fun h' st' sb=>?_
  have I1:Inv X pins σ H {s with heap:=h'}:=I.turned (t':=s.toks) (fun b o hb e=>(sb.2 b hb).trans e) f0 f1 f3 f4 f5
  obtain ⟨o,e,c,d⟩:=id st'
  exact ⟨u,rfl,qk (s:={s with heap:=h'}) e c d (by decide) ⟨x,H,I1,ru,⟨rfl,fun ys hy=>by rw [I.nU hy hq];exact hx⟩,st',fun b hb=>(hf b hb).1⟩⟩
 done:=by
  intro X hP hw hK hc i pins s σ H E I hf st hg
  subst hP hw hK
  obtain ⟨xs,hq,hx⟩:=hg
  obtain ⟨its,rv,p,hz⟩:=I.list hq
  obtain ⟨f0,f1,f2,f3,f4,f5⟩:=hf it (by simp)
  have hl:=rv.length
  exact wpAny_pyNext_list_end (I.ok.hd hc) st p.isList (by simp;omega) fun h' eb=>⟨rfl,I.turned (t':=s.toks) (fun b o hb e=>eb b o hb e) f0 f1 f3 f4 f5⟩
 self:=fun _ _ _ _ _ st h=>wpAny_pyIter_listiter st h
theorem oy {P:Program} {w:World} {K:PySem.W.Frag} {tg:Expr} (a it:Addr):Turn P w K tg (Itt K a) [it] it (fun i h=>h.IsTupleIter it a i) where
 mem:=by simp
 obj:=fun i h st b hb=>by
  have e:b=it:=by simpa using hb
  subst e
  obtain ⟨o,e,c,d⟩:=st
  exact ⟨o,e,fun v z=>by rw [d] at z;cases z⟩
 keep:=fun i h h' st k=>st.at fun o e=>k it (by simp) o e
 item:=by
  intro X hP hw hK hc i pins s σ H E I hf st hg
  subst hP hw hK
  obtain ⟨xs,x,hq,hx⟩:=hg
  obtain ⟨its,rv,p,hz⟩:=I.tuple hq
  obtain ⟨u,hu,ru⟩:=rv.get hx
  obtain ⟨f0,f1,f2,f3,f4,f5⟩:=hf it (by simp)
  refine wpAny_pyNext_tuple_item st (show s.heap.IsTuple a its.toArray from p) (x:=u) (by simpa using hu) fun h' st' sb=>?_
  have I1:Inv X pins σ H {s with heap:=h'}:=I.turned (t':=s.toks) (fun b o hb e=>(sb.2 b hb).trans e) f0 f1 f3 f4 f5
  obtain ⟨o,e,c,d⟩:=id st'
  exact ⟨u,rfl,qk (s:={s with heap:=h'}) e c d (by decide) ⟨x,H,I1,ru,⟨rfl,fun ys hy=>by rw [I.kE hy hq];exact hx⟩,st',fun b hb=>(hf b hb).1⟩⟩
 done:=by
  intro X hP hw hK hc i pins s σ H E I hf st hg
  subst hP hw hK
  obtain ⟨xs,hq,hx⟩:=hg
  obtain ⟨its,rv,p,hz⟩:=I.tuple hq
  obtain ⟨f0,f1,f2,f3,f4,f5⟩:=hf it (by simp)
  have hl:=rv.length
  exact wpAny_pyNext_tuple_end (I.ok.hd hc) st (show s.heap.IsTuple a its.toArray from p) (by simp;omega) fun h' eb=>⟨rfl,I.turned (t':=s.toks) (fun b o hb e=>eb b o hb e) f0 f1 f3 f4 f5⟩
 self:=fun _ _ _ _ _ st h=>wpAny_pyIter_tupleiter st h
theorem oz {P:Program} {w:World} {K:PySem.W.Frag} {tg:Expr} (it:Addr) (lo:Int) (n:Nat):Turn P w K tg (Itr lo n) [it] it (fun i h=>IsRangeIter h it (lo+(i:Nat)*1) ((n:Int)-(i:Nat)) 1) where
 mem:=by simp
 obj:=fun i h st b hb=>by
  have e:b=it:=by simpa using hb
  subst e
  exact ⟨_,st,fun v z=>by
   have z':Data.fields _=Data.cell v:=z
   cases z'⟩
 keep:=fun i h h' st k=>k it (by simp) _ st
 item:=by
  intro X hP hw hK hc i pins s σ H E I hf st hg
  subst hP hw hK
  obtain ⟨f0,f1,f2,f3,f4,f5⟩:=hf it (by simp)
  have W:=Walks.range (prog:=X.prog) (w:=X.w) (I.ok.hd hc) it lo 1 n
  refine W.item i s _ _ hg st fun v h' tk hv st' kk=>?_
  obtain ⟨t,rfl⟩:=hv
  have I1:Inv X pins σ H {s with heap:=h',toks:=tk}:=I.turned (fun b o hb e=>kk b o (by simpa using hb) e) f0 f1 f3 f4 f5
  refine ⟨_,rfl,qk (s:={s with heap:=h',toks:=tk}) (n:="range_iterator") st' rfl rfl (by decide) ⟨.int (lo+i),H,I1,⟨t,?_⟩,⟨rfl,rfl⟩,st',fun b hb=>(hf b hb).1⟩⟩
  rw [Int.mul_one]
 done:=by
  intro X hP hw hK hc i pins s σ H E I hf st hg
  subst hP hw hK
  obtain ⟨f0,f1,f2,f3,f4,f5⟩:=hf it (by simp)
  exact wpAny_pyNext_range_end (I.ok.hd hc) st (by have:n≤i:=hg;omega) fun h' eb=>⟨rfl,I.turned (t':=s.toks) (fun b o hb e=>eb b o hb e) f0 f1 f3 f4 f5⟩
 self:=fun _ _ _ _ _ st h=>wpAny_pyIter_rangeiter st h
end L2
namespace L2
open PySem PySem.Spec PyProof.Rows
section
variable {X:Cx} {tg:Expr}
theorem nv {pins:List (Addr×Obj)} {σ:St} {H:Hp} {s:Shared} {R:It→Hp→Prop} {E:Value→Shared→Prop} {lo hi:Int} {t u v:Tok} {tk:Nat} (I:Inv X pins σ H s) (h1:-(2^62)≤lo) (h2:lo < 2^62) (h3:-(2^62)≤hi) (h4:hi < 2^62)
  (q:R (Itr lo (hi-lo).toNat) H):wpAny (model X.prog X.w) X.A (pyIter (.ref s.heap.objs.size)) (PIE X pins σ tg R) E {s with heap:=s.heap.push {cls:=.type "range",data:=.fields #[.int lo t,.int hi u,.int 1 v]},toks:=tk}:=by
 refine wpAny_pyIter_range (IsRange.new ..) (small_one h1 h2 h3 h4) ?_
 have I1:Inv X pins σ H {s with heap:=s.heap.push {cls:=.type "range",data:=.fields #[.int lo t,.int hi u,.int 1 v]},toks:=tk}:=I.kept fun b o e=>Heap.get?_push_of_some _ e
 refine ⟨(s.heap.push {cls:=.type "range",data:=.fields #[.int lo t,.int hi u,.int 1 v]}).objs.size,[(s.heap.push {cls:=.type "range",data:=.fields #[.int lo t,.int hi u,.int 1 v]}).objs.size],_,_,H,rfl,
  I1.kept (t':=tk) fun b o e=>Heap.get?_push_of_some _ e,oz _ lo (hi-lo).toNat,?_,fun b hb=>?_,q⟩
 ·have e1:lo+((0:Nat):Int)*1=lo:=by simp
  have e2:(((hi-lo).toNat:Nat):Int)-((0:Nat):Int)=Builtin.Range.rangeSize lo hi 1:=by rw [rangeSize_one];split <;> omega
  show IsRangeIter _ _ (lo+((0:Nat):Int)*1) ((((hi-lo).toNat:Nat):Int)-((0:Nat):Int)) 1
  rw [e1,e2]
  exact Heap.get?_push_size _ rfl
 ·have e:b=(s.heap.push {cls:=.type "range",data:=.fields #[.int lo t,.int hi u,.int 1 v]}).objs.size:=by simpa using hb
  subst e
  exact I1.kd (Nat.le_refl _) (I1.hok.fresh (Nat.le_refl _))
def AL (ta:TA):TI:=fun σ H R=>ta σ H fun vs H1=>∃j:Int,vs=[.int j]∧-(2^62)≤j∧j < 2^62∧R (Itr 0 j.toNat) H1
def AK (ta:TA):TI:=fun σ H R=>ta σ H fun vs H1=>∃i j:Int,vs=[.int i,.int j]∧(-(2^62)≤i∧i < 2^62∧-(2^62)≤j∧j < 2^62)∧R (Itr i (j-i).toNat) H1
theorem rg {a:Expr} {ta:TA} {p pos:Pos} (hg:Gl X "range") (hm:X.mg "range"=none) (ha:PA X [a] ta) (hs:starEach [a] X.env=[(false,eval a X.env)]:=by rfl):PI X tg (.Call (.Name "range" p) [a] [] pos) (AL ta):=by
 intro pins s σ H R I h
 refine Call_ (fU I hg hm boot_range (PyProof.Rows.callWith_type1 (thn (ha pos pins s σ H _ I h) fun us s1 ⟨vs,H1,I1,r1,q1⟩=>?_) hs rfl))
 obtain ⟨j,e,q1,q2,q⟩:=q1
 subst e
 cases r1 with
 | cons r rr=>
  cases rr
  obtain ⟨t,rfl⟩:=r
  exact call_range_1 (nv I1 (by omega) (by omega) q1 q2 (by simpa using q))
theorem rf {a b:Expr} {ta:TA} {p pos:Pos} (hg:Gl X "range") (hm:X.mg "range"=none) (ha:PA X [a,b] ta) (hs:starEach [a,b] X.env=[(false,eval a X.env),(false,eval b X.env)]:=by rfl) (hs2:starEach [b] X.env=[(false,eval b X.env)]:=by rfl):
  PI X tg (.Call (.Name "range" p) [a,b] [] pos) (AK ta):=by
 intro pins s σ H R I h
 refine Call_ (fU I hg hm boot_range (PyProof.Rows.callWith_type1 (thn (ha pos pins s σ H _ I h) fun us s1 ⟨vs,H1,I1,r1,q1⟩=>?_) (by rw [hs,hs2]) (by rw [hs2];rfl)))
 obtain ⟨i,j,e,⟨q1,q2,q3,q4⟩,q⟩:=q1
 subst e
 cases r1 with
 | cons r rr=>
  cases rr with
  | cons r' rr=>
   cases rr
   obtain ⟨t,rfl⟩:=r
   obtain ⟨t',rfl⟩:=r'
   exact call_range_2 (nv I1 q1 q2 q3 q4 q)
def xy (wi:TI) (g:TG) (tb:TS):TS:=fun D σ H=>wi σ H fun J H1=>∃W:Nat→Nat→St→Hp→Prop,(∃m,W 0 m σ H1)∧∀i m σ H,W i m σ H→
 (J.stop i H∧D.nx σ H)∨(J.go i H∧∃N:St→Hp→Prop,(∀σ' H',N σ' H'→∃m',m' < m∧W (i+1) m' σ' H')∧∀x H',J.yld i H x H'→g x σ H' fun σ2 H2=>tb {D with nx:=N,ct:=N,bk:=D.nx} σ2 H2)
def gZ (fp:List Addr) (h:Heap):List (Addr×Obj):=fp.filterMap fun b=>(h.get? b).map fun o=>(b,o)
theorem cm {fp:List Addr} {h:Heap} {b:Addr} {o:Obj} (hb:b∈fp) (e:h.get? b=some o):(b,o)∈gZ fp h:=List.mem_filterMap.mpr ⟨b,hb,by rw [e];rfl⟩
theorem rn {fp:List Addr} {h:Heap} {p:Addr×Obj} (hp:p∈gZ fp h):p.1∈fp∧h.get? p.1=some p.2:=by
 obtain ⟨b,hb,e⟩:=List.mem_filterMap.mp hp
 cases q:h.get? b with
 | none=>rw [q] at e;cases e
 | some o=>
  rw [q] at e
  have e':(b,o)=p:=Option.some.inj e
  subst e'
  exact ⟨hb,q⟩
theorem Inv.pinned {pins:List (Addr×Obj)} {σ:St} {H:Hp} {s:Shared} {fp:List Addr} (I:Inv X pins σ H s) (hf:∀b∈fp,dm X pins H b) (ho:∀b∈fp,∃o,s.heap.get? b=some o∧∀v,o.data≠.cell v):Inv X (pins++gZ fp s.heap) σ H s:=
 I.p7 fun p hp=>(List.mem_append.mp hp).elim (fun z=>I.pin p (List.mem_append_right _ z)) fun z=>by
  obtain ⟨hb,e⟩:=rn z
  obtain ⟨f0,f1,f2,_⟩:=hf p.1 hb
  obtain ⟨o,e',d⟩:=ho p.1 hb
  rw [e] at e';cases e'
  exact ⟨e,f0,f1,f2,d⟩
theorem Inv.eN {pins pl:List (Addr×Obj)} {σ:St} {H:Hp} {s:Shared} (I:Inv X (pins++pl) σ H s):Inv X pins σ H s:=I.p7 fun p hp=>I.pin p (List.mem_append_right _ (List.mem_append_left _ hp))
theorem tH {iter:Expr} {body:List Stmt} {wi:TI} {g:TG} {tb:TS} {pos:Pos} (hp:PassesOwn (model X.prog X.w) X.A X.env X.xe) (hc:X.calm=true) (hi:PI X tg iter wi) (hg:PG X tg g) (hb:PSs X body tb)
  (hs:∀x,foldedSetIterable iter X.env x=pure x:=by intro _;rfl):PS X (.For tg iter body [] pos) (xy wi g tb):=by
 intro pins s σ H D I h
 refine wpAny_For (thn (hi pins s σ H _ I h) fun v s1 h1=>thn h1 fun itv s2 h2=>?_) hs
 obtain ⟨it,fp,tn,J,H2,e,I2,T,st2,f2,W,⟨m0,w0⟩,turn⟩:=h2
 subst e
 have stat:∀{H':Hp},(∀b∈fp,H' b=none)→∀b∈fp,dm X pins H' b:=fun hn b hb=>⟨hn b hb,(f2 b hb).2⟩
 refine codeAny_forLoop_any (fun n s'=>∃i σ' H',Inv X pins σ' H' s'∧tn i s'.heap∧(∀b∈fp,H' b=none)∧W i n σ' H') ?_ m0 ⟨0,σ,H2,I2,st2,fun b hb=>(f2 b hb).1,w0⟩
 rintro n s3 ⟨i,σ3,H3,I3,st3,fr3,w3⟩
 rcases turn i n σ3 H3 w3 with ⟨stop,qn⟩ | ⟨go,N,hN,step⟩
 ·refine wpAny_passesOwn hp (thn (T.done X rfl rfl rfl hc i pins s3 σ3 H3 X.xe I3 (stat fr3) st3 stop) fun r s4 ⟨hr,I4⟩=>?_)
  subst hr
  exact wpAny_execs_nil ⟨σ3,H3,I4,qn⟩
 ·refine wpAny_passesOwn hp (thn (T.item X rfl rfl rfl hc i pins s3 σ3 H3 X.xe I3 (stat fr3) st3 go) fun r s4 ⟨u,hr,h4⟩=>?_)
  subst hr
  refine wpAny_passesOwn hp (thn h4 fun _ s5 ⟨x,H5,I5,r5,y5,st5,fr5⟩=>?_)
  have I5':=I5.pinned (stat fr5) (T.obj _ _ st5)
  refine wpAny_passesOwn hp (thn (hg _ s5 σ3 H5 x u _ I5' r5 (step x H5 y5)) fun _ s6 ⟨σ6,H6,I6,q6⟩=>?_)
  refine wpAny_passesOwn hp (thn (hb _ s6 σ6 H6 _ I6 q6) fun f s7 q7=>?_)
  have again:∀{σ7:St} {H7:Hp},Inv X (pins++gZ fp s5.heap) σ7 H7 s7→N σ7 H7→∃m,m < n∧∃i σ' H',Inv X pins σ' H' s7∧tn i s7.heap∧(∀b∈fp,H' b=none)∧W i m σ' H':=fun {σ7 H7} I7 n7=>by
   obtain ⟨m',hm,w7⟩:=hN σ7 H7 n7
   refine ⟨m',hm,i+1,σ7,H7,I7.eN,T.keep _ _ _ st5 fun b hb o e=>(I7.pin (b,o) (List.mem_append_right _ (List.mem_append_right _ (cm hb e)))).1,fun b hb=>?_,w7⟩
   obtain ⟨o,e,d⟩:=T.obj _ _ st5 b hb
   exact (I7.pin (b,o) (List.mem_append_right _ (List.mem_append_right _ (cm hb e)))).2.1
  cases f with
  | next=>obtain ⟨σ7,H7,I7,n7⟩:=q7;exact again I7 n7
  | cont=>obtain ⟨σ7,H7,I7,n7⟩:=q7;exact again I7 n7
  | brk=>obtain ⟨σ7,H7,I7,q7⟩:=q7;exact ⟨σ7,H7,I7.eN,q7⟩
  | ret v=>obtain ⟨x7,σ7,H7,I7,r7,q7⟩:=q7;exact ⟨x7,σ7,H7,I7.eN,r7,q7⟩
end
end L2
namespace L2
open PySem PySem.Spec PyProof.Rows
abbrev R2:=V→V→Hp→VK→Prop
def OpR (X:Cx) (f:Value→Value→Sem Value) (r:R2):Prop:=
 ∀(pins:List (Addr×Obj)) (s:Shared) (σ:St) (H:Hp) (x y:V) (v u:Value) (Q:VK),Inv X pins σ H s→RelV x v→RelV y u→r x y H Q→
  wpAny (model X.prog X.w) X.A (f v u) (EP X pins σ Q) X.xe s
def UnR (X:Cx) (f:Value→Sem Value) (r:V→Hp→VK→Prop):Prop:=
 ∀(pins:List (Addr×Obj)) (s:Shared) (σ:St) (H:Hp) (x:V) (v:Value) (Q:VK),Inv X pins σ H s→RelV x v→r x H Q→
  wpAny (model X.prog X.w) X.A (f v) (EP X pins σ Q) X.xe s
def cJ (X:Cx) (f:Value) (r:List V→Hp→VK→Prop):Prop:=
 ∀(pins:List (Addr×Obj)) (s:Shared) (σ:St) (H:Hp) (xs:List V) (us:List Value) (Q:VK),Inv X pins σ H s→Vals xs us→r xs H Q→
  wpAny (model X.prog X.w) X.A (call f us) (EP X pins σ Q) X.xe s
def BX (X:Cx) (r:V→Hp→(Bool→Hp→Prop)→Prop):Prop:=
 ∀(pins:List (Addr×Obj)) (s:Shared) (σ:St) (H:Hp) (x:V) (v:Value) (Q:Bool→Hp→Prop),Inv X pins σ H s→RelV x v→r x H Q→
  wpAny (model X.prog X.w) X.A (truthy v) (TP X pins σ Q) X.xe s
def tOp (r:R2) (ta tb:TE):TE:=fun σ H Q=>ta σ H fun x H1=>tb σ H1 fun y H2=>r x y H2 Q
def tUn (r:V→Hp→VK→Prop) (ta:TE):TE:=fun σ H Q=>ta σ H fun x H1=>r x H1 Q
def rI (C:Int→Int→Prop) (g:Int→Int→V):R2:=fun x y H Q=>∃i j,x=.int i∧y=.int j∧C i j∧Q (g i j) H
def rI0 (g:Int→Int→V):R2:=fun x y H Q=>∃i j,x=.int i∧y=.int j∧Q (g i j) H
def rU (g:Int→V):V→Hp→VK→Prop:=fun x H Q=>∃i,x=.int i∧Q (g i) H
section
variable {X:Cx} {a b c:Expr} {ta tb tc:TE} {pos:Pos}
theorem zi (ha:PE X a ta) (hb:PE X b tb) {pins:List (Addr×Obj)} {s:Shared} {σ:St} {H:Hp} {R:V→V→Hp→Prop} (I:Inv X pins σ H s)
  (h:ta σ H fun x H1=>tb σ H1 fun y H2=>R x y H2) {Q:Value→Shared→Prop} {f:Value→Value→Sem Value}
  (hf:∀v u s2 x y H2,Inv X pins σ H2 s2→RelV x v→RelV y u→R x y H2→wpAny (model X.prog X.w) X.A (f v u) Q X.xe s2):
  wpAny (model X.prog X.w) X.A (eval a X.env) (fun v s₁=>wpAny (model X.prog X.w) X.A (eval b X.env) (fun u s₂=>wpAny (model X.prog X.w) X.A (f v u) Q X.xe s₂) X.xe s₁) X.xe s:=by
 refine thn (ha pins s σ H _ I h) fun v s1 ⟨x,H1,I1,r1,q1⟩=>?_
 refine thn (hb pins s1 σ H1 _ I1 q1) fun u s2 ⟨y,H2,I2,r2,q2⟩=>?_
 exact hf v u s2 x y H2 I2 r1 r2 q2
theorem Al {op:Operator} {r:R2} (ho:OpR X (binaryOp op) r) (ha:PE X a ta) (hb:PE X b tb):PE X (.BinOp a op b pos) (tOp r ta tb):=by
 intro pins s σ H Q I h
 exact wpAny_BinOp (zi ha hb I h fun v u s2 x y H2 I2 rx ry q=>ho pins s2 σ H2 x y v u Q I2 rx ry q)
theorem Aj {op:UnaryOp} {r:V→Hp→VK→Prop} (ho:UnR X (unaryOp op) r) (ha:PE X a ta):PE X (.UnaryOp op a pos) (tUn r ta):=by
 intro pins s σ H Q I h
 exact UnaryOp_ (thn (ha pins s σ H _ I h) fun v s1 ⟨x,H1,I1,r1,q1⟩=>ho pins s1 σ H1 x v Q I1 r1 q1)
theorem opI {f:Value→Value→Sem Value} {C:Int→Int→Prop} {g:Int→Int→Int}
  (rule:∀(i j:Int) (t u:Tok) (s:Shared) (Q:Value→Shared→Prop) (E:Value→Shared→Prop),C i j→Q (.int (g i j) s.toks) {s with toks:=s.toks+1}→wpAny (model X.prog X.w) X.A (f (.int i t) (.int j u)) Q E s):
  OpR X f (rI C fun i j=>.int (g i j)):=by
 intro pins s σ H x y v u Q I rx ry h
 obtain ⟨i,j,rfl,rfl,hc,q⟩:=h
 obtain ⟨t,rfl⟩:=rx
 obtain ⟨t',rfl⟩:=ry
 exact rule i j t t' s _ _ hc ⟨.int (g i j),H,I.tok _,⟨_,rfl⟩,q⟩
theorem Ax {f:Value→Value→Sem Value} {g:Int→Int→Int}
  (rule:∀(i j:Int) (t u:Tok) (s:Shared) (Q:Value→Shared→Prop) (E:Value→Shared→Prop),Q (.int (g i j) s.toks) {s with toks:=s.toks+1}→wpAny (model X.prog X.w) X.A (f (.int i t) (.int j u)) Q E s):
  OpR X f (rI0 fun i j=>.int (g i j)):=by
 intro pins s σ H x y v u Q I rx ry h
 obtain ⟨i,j,rfl,rfl,q⟩:=h
 obtain ⟨t,rfl⟩:=rx
 obtain ⟨t',rfl⟩:=ry
 exact rule i j t t' s _ _ ⟨.int (g i j),H,I.tok _,⟨_,rfl⟩,q⟩
theorem we {f:Value→Value→Sem Value} {g:Int→Int→Bool}
  (rule:∀(i j:Int) (t u:Tok) (s:Shared) (Q:Value→Shared→Prop) (E:Value→Shared→Prop),Q (.bool (g i j)) s→wpAny (model X.prog X.w) X.A (f (.int i t) (.int j u)) Q E s):
  OpR X f (rI0 fun i j=>.bl (g i j)):=by
 intro pins s σ H x y v u Q I rx ry h
 obtain ⟨i,j,rfl,rfl,q⟩:=h
 obtain ⟨t,rfl⟩:=rx
 obtain ⟨t',rfl⟩:=ry
 exact rule i j t t' s _ _ ⟨.bl (g i j),H,I,rfl,q⟩
def BY (i j:Int):Prop:=0≤j∧j≤1000000∧i.natAbs < 2^64
def zm (i j:Int):Prop:=(-(2^64) < i∧i < 2^64)∨(-(2^64) < j∧j < 2^64)
theorem zm.ok {i j:Int} (h:zm i j):IntMulOk i j:=by
 rcases h with ⟨h1,h2⟩ | ⟨h1,h2⟩
 ·exact .of_left (intBits_le_64 h1 h2)
 ·exact .of_right (intBits_le_64 h1 h2)
theorem yI:OpR X (binaryOp .Add) (rI0 fun i j=>.int (i+j)):=Ax fun _ _ _ _ _ _ _ q=>add_int q
theorem yC:OpR X (binaryOp .Sub) (rI0 fun i j=>.int (i-j)):=Ax fun _ _ _ _ _ _ _ q=>sub_int q
theorem yE:OpR X (binaryOp .Mult) (rI zm fun i j=>.int (i*j)):=opI fun _ _ _ _ _ _ _ hc q=>mul_int q hc.ok
theorem yF:OpR X (binaryOp .Mod) (rI (fun _ j=>0 < j) fun i j=>.int (i % j)):=opI fun i j _ _ _ _ _ hc q=>by
 have h1:(0:Int) < j:=hc
 exact mod_int' (by omega) (by rw [Int.fmod_eq_emod_of_nonneg i (by omega)];exact q)
theorem yD:OpR X (binaryOp .Pow) (rI BY fun i j=>.int (i^j.toNat)):=opI fun _ _ _ _ _ _ _ hc q=>pow_int_small hc.1 hc.2.1 hc.2.2 q
theorem unI {f:Value→Sem Value} {g:Int→Int}
  (rule:∀(i:Int) (t:Tok) (s:Shared) (Q:Value→Shared→Prop) (E:Value→Shared→Prop),Q (.int (g i) s.toks) {s with toks:=s.toks+1}→wpAny (model X.prog X.w) X.A (f (.int i t)) Q E s):
  UnR X f (rU fun i=>.int (g i)):=by
 intro pins s σ H x v Q I rx h
 obtain ⟨i,rfl,q⟩:=h
 obtain ⟨t,rfl⟩:=rx
 exact rule i t s _ _ ⟨.int (g i),H,I.tok _,⟨_,rfl⟩,q⟩
theorem xr:UnR X (unaryOp .USub) (rU fun i=>.int (-i)):=unI fun _ _ _ _ _ q=>neg_int q
end
section
variable {X:Cx} {a b c:Expr} {ta tb tc:TE} {pos:Pos}
theorem uk {pins:List (Addr×Obj)} {σ:St} {H:Hp} {s:Shared} {Q:VK} {k k':Bool} (I:Inv X pins σ H s) (q:Q (.bl k) H) (e:k=k'):EP X pins σ Q (.bool k') s:=by
 subst e
 exact ⟨.bl k,H,I,rfl,q⟩
theorem As:OpR X (compareOp .Lt) (rI0 fun i j=>.bl (decide (i < j))):=we fun _ _ _ _ _ _ _ q=>lt_int q
theorem Au:OpR X (compareOp .LtE) (rI0 fun i j=>.bl (decide (i≤j))):=we fun _ _ _ _ _ _ _ q=>le_int q
theorem Av:OpR X (compareOp .Gt) (rI0 fun i j=>.bl (decide (j < i))):=we fun _ _ _ _ _ _ _ q=>gt_int q
theorem Aw:OpR X (compareOp .GtE) (rI0 fun i j=>.bl (decide (j≤i))):=we fun _ _ _ _ _ _ _ q=>ge_int q
theorem yG:OpR X (compareOp .Is) (fun x y H Q=>y=.non∧Q (.bl (decide (x=.non))) H):=by
 intro pins s σ H x y v u Q I rx ry h
 obtain ⟨rfl,q⟩:=h
 cases ry
 refine is_none_gen (uk I q ?_)
 cases x <;> first
  | (cases rx;rfl)
  | (obtain ⟨t,rfl⟩:=rx;rfl)
theorem wc:OpR X (compareOp .IsNot) (fun x y H Q=>y=.non∧Q (.bl (!decide (x=.non))) H):=by
 intro pins s σ H x y v u Q I rx ry h
 obtain ⟨rfl,q⟩:=h
 cases ry
 refine isnot_none_gen (uk I q ?_)
 cases x <;> first
  | (cases rx;rfl)
  | (obtain ⟨t,rfl⟩:=rx;rfl)
theorem bu (b:Expr) {op:CmpOp} (h:op≠.In:=by decide) (h2:op≠.NotIn:=by decide):behindInMarks op b=false:=by
 have e1:(op==CmpOp.In)=false:=by cases op <;> first | rfl | exact absurd rfl h
 have e2:(op==CmpOp.NotIn)=false:=by cases op <;> first | rfl | exact absurd rfl h2
 cases b <;> simp [behindInMarks,e1,e2]
theorem v8 {op:CmpOp} {r:R2} (ho:OpR X (compareOp op) r) (ha:PE X a ta) (hb:PE X b tb) (hm:behindInMarks op b=false):PE X (.Compare a [op] [b] pos) (tOp r ta tb):=by
 intro pins s σ H Q I h
 exact wpAny_Compare1 (zi ha hb I h fun v u s2 x y H2 I2 rx ry q=>ho pins s2 σ H2 x y v u Q I2 rx ry q) hm
def zB (t:TE):TT:=fun σ H Q=>t σ H fun x H'=>∃k,x=.bl k∧Q k H'
theorem vK {op:CmpOp} {r:R2} (ho:OpR X (compareOp op) r) (ha:PE X a ta) (hb:PE X b tb) (hm:behindInMarks op b=false):PT X (.Compare a [op] [b] pos) (zB (tOp r ta tb)):=by
 intro pins s σ H Q I h
 refine wpAny_isTrue_Compare1 (thn (ha pins s σ H _ I h) fun v s1 ⟨x,H1,I1,r1,q1⟩=>thn (hb pins s1 σ H1 _ I1 q1) fun u s2 ⟨y,H2,I2,r2,q2⟩=>
  thn (ho pins s2 σ H2 x y v u _ I2 r1 r2 q2) fun c s3 ⟨z,H3,I3,r3,k,e,q3⟩=>?_) hm
 subst e
 cases r3
 exact wpAny_truthy_bool ⟨H3,I3,q3⟩
def wU (K:PySem.W.Frag) (x:V) (H:Hp) (k:Bool):Prop:=
 match x with
 | .non=>k=false
 | .bl b=>k=b
 | .int i=>k=(i !=0)
 | .str y=>y.length≤sizeLine∧k=((y.length:Int) !=0)
 | .byt y=>y.size≤sizeLine∧k=((y.size:Int) !=0)
 | .ref p=>(∃xs,SqL K H p xs∧k=!xs.isEmpty)∨(∃xs,SqT K H p xs∧k=!xs.isEmpty)∨∃kvs,H p=some (.dK kvs)∧k=!kvs.isEmpty
 | _=>False
theorem pj {κ:Type} {kvs:List (κ×V)} {vs:List (κ×Value)} (r:KV kvs vs):(!vs.isEmpty)=!kvs.isEmpty:=by
 cases r <;> rfl
theorem jy {xs:List V} {its:List Value} (r:Vals xs its):(!its.toArray.isEmpty)=!xs.isEmpty:=by
 cases r <;> simp
theorem fQ:(sizeLine:Nat) < 2^63:=by rw [sizeLine_eq];decide
theorem sC:BX X (fun x H Q=>∃k,wU X.K x H k∧Q k H):=by
 intro pins s σ H x v Q I rx h
 obtain ⟨k,e,q⟩:=h
 have hl:=fQ
 have hs:sizeLine=16777216:=sizeLine_eq
 cases x with
 | non=>
  cases rx
  have e':k=false:=e
  subst e'
  exact truthy_none ⟨H,I,q⟩
 | bl b=>
  cases rx
  have e':k=b:=e
  subst e'
  exact wpAny_truthy_bool ⟨H,I,q⟩
 | int i=>
  obtain ⟨t,rfl⟩:=rx
  have e':k=(i !=0):=e
  subst e'
  exact PySem.P.truthy_int ⟨H,I,q⟩
 | str y=>
  obtain ⟨t,rfl⟩:=rx
  obtain ⟨hy,e'⟩:y.length≤sizeLine∧k=((y.length:Int) !=0):=e
  subst e'
  exact PySem.P.truthy_str (by omega) ⟨H,I.tok _,q⟩
 | byt y=>
  obtain ⟨t,rfl⟩:=rx
  obtain ⟨hy,e'⟩:y.size≤sizeLine∧k=((y.size:Int) !=0):=e
  subst e'
  exact PySem.W.truthy_bytes (by omega) ⟨H,I.tok _,q⟩
 | ref p=>
  cases rx
  have e':(∃xs,SqL X.K H p xs∧k=!xs.isEmpty)∨(∃xs,SqT X.K H p xs∧k=!xs.isEmpty)∨∃kvs,H p=some (.dK kvs)∧k=!kvs.isEmpty:=e
  rcases e' with ⟨xs,hx,e'⟩ | ⟨xs,hx,e'⟩ | ⟨kvs,hx,e'⟩
  ·subst e'
   obtain ⟨its,r,pl,hz⟩:=I.list hx
   have hlen:=r.length
   exact wpAny_truthy_list pl.isList (by simp only [List.size_toArray];omega) ⟨H,I.tok _,by rw [jy r];exact q⟩
  ·subst e'
   obtain ⟨its,r,pl,hz⟩:=I.tuple hx
   have hlen:=r.length
   exact truthy_tuple pl (by simp only [List.size_toArray];omega) ⟨H,I.tok _,by rw [jy r];exact q⟩
  ·subst e'
   obtain ⟨hz,hS,vs,r,m⟩:kvs.length≤sizeLine∧(p==sysModules)=false∧∃vs,KV kvs vs∧s.heap.DictOf (au X.prog X.w) p vs:=I.hok p _ hx
   have hlen:kvs.length=vs.length:=Paired.length r
   exact wpAny_truthy_dict hS m (by omega) ⟨H,I.tok _,by rw [pj r];exact q⟩
 | _=>exact (show False from e).elim
theorem tE (ha:PE X a ta) (he:∀whole,isTrue a X.env whole=(do let v←whole;standAt a.pos;holding [v] (truthy v))):
  PT X a (fun σ H Q=>ta σ H fun x H'=>∃k,wU X.K x H' k∧Q k H'):=by
 intro pins s σ H Q I h
 exact isTrue_plain (thn (ha pins s σ H _ I h) fun v s1 ⟨x,H1,I1,r1,q1⟩=>sC pins s1 σ H1 x v Q I1 r1 q1) (he _)
theorem o3:OpR X (binaryOp .Add) (fun x y H Q=>∃i j,x=.str i∧y=.str j∧i.length+j.length≤sizeLine∧Q (.str (i++j)) H):=by
 intro pins s σ H x y v u Q I rx ry h
 obtain ⟨i,j,rfl,rfl,hz,q⟩:=h
 obtain ⟨t,rfl⟩:=rx
 obtain ⟨t',rfl⟩:=ry
 exact add_str (fun t' tk=>⟨.str (i++j),H,I.tok _,⟨_,rfl⟩,q⟩) hz
theorem vals1 {x:V} {us:List Value} (r:Vals [x] us):∃u,us=[u]∧RelV x u:=by
 cases r with
 | cons r1 r2=>cases r2;exact ⟨_,rfl,r1⟩
theorem vals2 {x y:V} {us:List Value} (r:Vals [x,y] us):∃u w',us=[u,w']∧RelV x u∧RelV y w':=by
 cases r with
 | cons r1 r2=>
  cases r2 with
  | cons r3 r4=>cases r4;exact ⟨_,_,rfl,r1,r3⟩
theorem uP:cJ X (.builtin "abs") (fun xs H Q=>∃i,xs=[.int i]∧Q (.int (if i < 0 then -i else i)) H):=by
 intro pins s σ H xs us Q I r h
 obtain ⟨i,rfl,q⟩:=h
 obtain ⟨u,rfl,t,rfl⟩:=vals1 r
 exact call_abs_int fun u tk=>⟨.int (if i < 0 then -i else i),H,I.tok _,⟨_,rfl⟩,q⟩
theorem ll (hc:X.calm=true):cJ X (.builtin "min") (fun xs H Q=>∃i j,xs=[.int i,.int j]∧Q (.int (if j < i then j else i)) H):=by
 intro pins s σ H xs us Q I r h
 obtain ⟨i,j,rfl,q⟩:=h
 obtain ⟨u,w',rfl,⟨t,rfl⟩,⟨t',rfl⟩⟩:=vals2 r
 refine min_two_ints (I.ok.hd hc) fun h' tk k=>⟨_,H,I.kept k,?_,q⟩
 by_cases hj:j < i
 ·rw [if_pos hj,if_pos hj];exact ⟨_,rfl⟩
 ·rw [if_neg hj,if_neg hj];exact ⟨_,rfl⟩
end
end L2
namespace L2
open PySem PySem.Spec PyProof.Rows
structure ObjM (h:Heap) (x dx C:Addr) (mA:Str→Option Value):Prop where
 obj:h.get? x=some (PySem.W.instObj C dx)
 ns:h.Ns1 dx mA
 ne:dx≠x
theorem rB {h:Heap} {dx:Addr} {mA:Str→Option Value} (n:h.Ns1 dx mA):∃od,h.get? dx=some od∧∀name,PySem.W.lookIn name od=some (mA name):=by
 obtain ⟨o,es,ep,ho,hd,hk,_,hm⟩:=n
 refine ⟨o,ho,fun name=>?_⟩
 have e:=hm name
 unfold nsFind findBy at e
 rw [←Array.find?_toList] at e
 unfold PySem.W.lookIn
 rw [hd]
 dsimp only
 split
 ·rename_i y q
  rw [q] at e
  exact congrArg some e
 ·rename_i q
  rw [q] at e
  have a:es.toList.any (·.refKey)=false:=by
   rw [List.any_eq_false]
   intro y hy
   obtain ⟨z,t,hkey⟩:=hk y (Array.mem_toList_iff.mp hy)
   simp [DictEntry.refKey,hkey]
  have a':¬es.toList.any (·.refKey)=true:=by rw [a];exact Bool.false_ne_true
  rw [if_neg a']
  exact congrArg some e
theorem ObjM.look {h:Heap} {x dx C:Addr} {mA:Str→Option Value} (I:ObjM h x dx C mA):∃od,PySem.W.InstAt h x (PySem.W.instObj C dx) C (some od)∧∀name,PySem.W.lookIn name od=some (mA name):=
 let ⟨od,ho,hl⟩:=rB I.ns
 ⟨od,⟨I.obj,rfl,rfl,ho⟩,hl⟩
section
variable {prog:Program} {w:World} {A:Around} {E:Value→Shared→Prop} {s:Shared} {K:PySem.W.Frag} {x dx C f:Addr} {mA:Str→Option Value} {name:Str} {v:Value}
end
theorem ik.some_of {v:V} {o:Option Value} (r:ik (some v) o):∃u,o=some u∧RelV v u:=by
 cases o with
 | none=>exact (show False from r).elim
 | some u=>exact ⟨u,rfl,r⟩
section
variable {P:Program} {w:World} {H H':Hp} {h h':Heap} {a C dx:Addr} {fs fs':List (Str×V)}
theorem wB (hok:HOk P w H h) (e:H a=some (.ins C dx fs)):∃mA,ObjM h a dx C mA∧(∀f,ik (fs.lookup f) (mA f))∧PySem.Within mA (fs.map (·.1))∧fs.length≤1000∧H dx=some (.own a):=by
 obtain ⟨d,z,ne,ob,mA,n,r,q⟩:=(show a8 P w H h a (.ins C dx fs) from hok a _ e)
 exact ⟨mA,⟨ob,n,ne⟩,r,q,z,d⟩
end
structure Cls (K:PySem.W.Frag) (C:Addr):Prop where
 pg:PySem.W.plainGet K C Str.empty=true
 hd:PySem.W.hasDictIn K C=true
 po:PySem.W.plainOver K C=true
 sa:PySem.W.findIn K (.ref C) "__setattr__"=some (some (.builtin "object.__setattr__"))
theorem Cls.get {K:PySem.W.Frag} {C:Addr} (c:Cls K C) (f:Str):PySem.W.plainGet K C f=true:=c.pg
section
variable {X:Cx} {pins:List (Addr×Obj)} {σ:St} {H:Hp} {s:Shared} {a C dx:Addr} {fs:List (Str×V)} {f:Str} {v:V} {A:Around} {E:Value→Shared→Prop}
end
section
variable {X:Cx} {o e value:Expr} {f:Str} {pos pos' tpos:Pos} {ta tv:TE}
end
section
variable {X:Cx} {pins:List (Addr×Obj)} {σ:St} {H:Hp} {s:Shared} {A:Around} {E:Value→Shared→Prop} {Q:Value→Shared→Prop} {c:Value} {b:Bool}
inductive TyOf (K:PySem.W.Frag) (H:Hp):V→Value→Prop where
 | non:TyOf K H .non (.type "NoneType")
 | bl (x:Bool):TyOf K H (.bl x) (.type "bool")
 | int (i:Int):TyOf K H (.int i) (.type "int")
 | str (x:Str):TyOf K H (.str x) (.type "str")
 | flt (x:UInt64):TyOf K H (.flt x) (.type "float")
 | lst {a:Addr} {xs:List V} (e:H a=some (.lst xs)):TyOf K H (.ref a) (.type "list")
 | frz {a:Addr} {o:Obj} {xs:List V} (e:H a=some (.frz o (.lst xs))):TyOf K H (.ref a) (.type "list")
 | tup {a:Addr} {xs:List V} (e:H a=some (.tup xs)):TyOf K H (.ref a) (.type "tuple")
 | dK {a:Addr} {kvs:List (Key×V)} (e:H a=some (.dK kvs)):TyOf K H (.ref a) (.type "dict")
 | dT {a:Addr} {kvs:List (List Key×V)} (e:H a=some (.dT kvs)):TyOf K H (.ref a) (.type "dict")
 | ins {a C dx:Addr} {fs:List (Str×V)} (e:H a=some (.ins C dx fs)) (cl:Cls K C) (ha:PySem.W.findIn K (.ref C) "__class__"=some (some (.builtin "object.__class__")))
   (hn:PySem.W.specialIn K (.builtin "object.__class__") "__get__"=some (some (.builtin "getset_descriptor.__get__"))) (htk:PySem.W.takesIn K (.builtin "object.__class__")=some true)
   (hm:PySem.W.mroIn K C (.type "object")=some true):TyOf K H (.ref a) (.ref C)
theorem rN {x:V} {u t:Value} (I:Inv X pins σ H s) (rx:RelV x u) (ty:TyOf X.K H x t) (e:PySem.W.kitOne X.K t c=some b) (h:∀tk,Q (.bool b) {s with toks:=tk}):
  wpAny (model X.prog X.w) A (call (.builtin "isinstance") [u,c]) Q E s:=by
 cases ty with
 | non=>cases (show u=Value.none from rx);exact PySem.W.kia_one PySem.W.kitx_none I.kIn True.intro e (fun z=>nomatch z) h
 | bl y=>cases (show u=Value.bool y from rx);exact PySem.W.kia_one PySem.W.kitx_bool I.kIn True.intro e (fun z=>nomatch z) h
 | int i=>obtain ⟨t,q⟩:=(show ∃t,u=Value.int i t from rx);cases q;exact PySem.W.kia_one PySem.W.kitx_int I.kIn True.intro e (fun z=>nomatch z) h
 | str y=>obtain ⟨t,q⟩:=(show ∃t,u=Value.str y t from rx);cases q;exact PySem.W.kia_one PySem.W.kitx_str I.kIn True.intro e (fun z=>nomatch z) h
 | flt y=>obtain ⟨t,q⟩:=(show ∃t,u=Value.float y t from rx);cases q;exact PySem.W.kia_one PySem.W.kitx_float I.kIn True.intro e (fun z=>nomatch z) h
 | @lst a xs ea=>
  cases (show u=Value.ref a from rx)
  obtain ⟨_,_,n,_,h1⟩:=(show a8 X.prog X.w H s.heap a (.lst xs) from I.hok a _ ea)
  exact PySem.W.kia_one PySem.W.kitx_list I.kIn ⟨_,h1,rfl⟩ e (fun z=>nomatch z) h
 | @frz a ob xs ea=>
  cases (show u=Value.ref a from rx)
  obtain ⟨_,_,_,n,_,h1⟩:=(show a8 X.prog X.w H s.heap a (.frz ob (.lst xs)) from I.hok a _ ea)
  exact PySem.W.kia_one PySem.W.kitx_list I.kIn ⟨_,h1,rfl⟩ e (fun z=>nomatch z) h
 | @tup a xs ea=>
  cases (show u=Value.ref a from rx)
  obtain ⟨_,_,_,p⟩:=(show a8 X.prog X.w H s.heap a (.tup xs) from I.hok a _ ea)
  obtain ⟨o,h1,h2,_⟩:=p
  exact PySem.W.kia_one PySem.W.kitx_tuple I.kIn ⟨o,h1,h2⟩ e (fun z=>nomatch z) h
 | @dK a kvs ea=>
  cases (show u=Value.ref a from rx)
  obtain ⟨_,_,vs,_,p⟩:=(show a8 X.prog X.w H s.heap a (.dK kvs) from I.hok a _ ea)
  obtain ⟨o,es,ep,h1,h2,_⟩:=p
  exact PySem.W.kia_one PySem.W.kitx_dict I.kIn ⟨o,h1,h2.1⟩ e (fun z=>nomatch z) h
 | @dT a kvs ea=>
  cases (show u=Value.ref a from rx)
  obtain ⟨_,_,xs,_,o,es,ep,h1,h2,_⟩:=(show a8 X.prog X.w H s.heap a (.dT kvs) from I.hok a _ ea)
  exact PySem.W.kia_one PySem.W.kitx_dict I.kIn ⟨o,h1,h2.1⟩ e (fun z=>nomatch z) h
 | @ins a C dx fs ea cl ha hn htk hm=>
  cases (show u=Value.ref a from rx)
  obtain ⟨mA,O,_⟩:=wB I.hok ea
  obtain ⟨od,J,_⟩:=O.look
  exact PySem.W.kia_one (PySem.W.kitx_own (cl.get _) cl.hd ha hn htk hm) I.kIn J e (fun z=>nomatch z) h
end
end L2
namespace L2
open PySem PySem.Spec PyProof.Rows
structure Room (k:Nat) (A:Around):Prop where
 hd:A.handled=none
 dp:A.depth+3*k+5 < recursionLimit
 un:A.units+16*k+200 < cLine
theorem Room.mono {j k:Nat} {A:Around} (r:Room k A) (h:j≤k):Room j A:=⟨r.hd,by have:=r.dp;omega,by have:=r.un;omega⟩
theorem Room.deeper {k:Nat} {A:Around} (r:Room (k+1) A) (env:Env):Room k (A.deeper env):=
 ⟨r.hd,by have:=r.dp;show A.depth+1+3*k+5 < _;omega,by have:=r.un;show A.units+3+16*k+200 < _;omega⟩
theorem Room.depth {k:Nat} {A:Around} (r:Room k A):A.depth < recursionLimit:=by have:=r.dp;omega
theorem Room.units {k:Nat} {A:Around} (r:Room k A):A.units+64 < cLine:=by have:=r.un;omega
def zF:TA:=fun _ H Q=>Q [] H
def sI (ta:TE) (tr:TA):TA:=fun σ H Q=>ta σ H fun x H1=>tr σ H1 fun xs H2=>Q (x::xs) H2
section
variable {X:Cx} {e:Expr} {es:List Expr} {te:TE} {t:TA} {pos:Pos}
theorem oY:PA X [] zF:=fun _ _ _ _ H Q I h=>Calls.spliced_nil ⟨[],H,I,.nil,h⟩
theorem iP (ha:PE X e te) (hr:PA X es t) (hs:starEach (e::es) X.env=(false,eval e X.env)::starEach es X.env:=by rfl):PA X (e::es) (sI te t):=by
 intro pos pins s σ H Q I h
 rw [hs]
 show wpAny _ _ (spliced ((false,eval e X.env)::backTo pos (starEach es X.env))) _ _ s
 refine Calls.spliced_cons (thn (ha pins s σ H _ I h) fun u s1 ⟨x,H1,I1,r1,q1⟩=>?_)
 exact thn (hr pos pins s1 σ H1 _ I1 q1) fun us s2 ⟨xs,H2,I2,r2,q2⟩=>⟨x::xs,H2,I2,.cons r1 r2,q2⟩
def Ba (t:TA):TE:=fun σ H Q=>t σ H fun xs H1=>xs.length≤sizeLine∧∀p,H1 p=none→Q (.ref p) (upd H1 p (.tup xs))
def Be (t:TA):TE:=fun σ H Q=>t σ H fun xs H1=>xs.length≤sizeLine∧∀p,H1 p=none→Q (.ref p) (upd H1 p (.lst xs))
theorem yn {x1} (h:PA X es t):PE X (.Tuple es x1 pos) (Ba t):=by
 intro pins s σ H Q I hq
 refine wpAny_Tuple_spliced (thn (h pos pins s σ H _ I hq) fun us s1 ⟨xs,H1,I1,r,z,q⟩=>⟨by rw [←r.length];exact z,?_⟩)
 have hf:H1 s1.heap.objs.size=none:=I1.hok.fresh (Nat.le_refl _)
 refine ⟨.ref s1.heap.objs.size,upd H1 s1.heap.objs.size (.tup xs),I1.laid (t':=s1.toks) (fun b u e=>Heap.get?_push_of_some _ e) (Nat.le_refl _) ?_,rfl,q _ hf⟩
 exact ⟨z,us,r,⟨_,Heap.get?_push_size _ rfl,rfl,⟨_,rfl⟩,rfl⟩⟩
theorem yt (h:PA X es t):PE X (.List es pos) (Be t):=by
 intro pins s σ H Q I hq
 refine wpAny_List_spliced (thn (h pos pins s σ H _ I hq) fun us s1 ⟨xs,H1,I1,r,z,q⟩=>⟨by rw [←r.length];exact z,?_⟩)
 have hf:H1 s1.heap.objs.size=none:=I1.hok.fresh (Nat.le_refl _)
 refine ⟨.ref s1.heap.objs.size,upd H1 s1.heap.objs.size (.lst xs),I1.laid (t':=s1.toks) (fun b u e=>Heap.get?_push_of_some _ e) (Nat.le_refl _) ?_,rfl,q _ hf⟩
 exact ⟨z,us,0,r,Heap.get?_push_size _ rfl⟩
end
abbrev Sp:=List V→Hp→VK→XK→Prop
abbrev CXT:=List Env→Hp→Shared→XK→Value→Shared→Prop
structure Env0 (P:Program) (w:World) (K:PySem.W.Frag) (mg:Str→Option Value) (base:Heap) (A:Around) (outer:List Env) (s:Shared) (H:Hp):Prop where
 frames:A.frames=some outer
 mod:Mod K mg base
 bs:∀b o,base.get? b=some o→s.heap.get? b=some o∧H b=none
 bsz:base.objs.size≤s.heap.objs.size
 jA:s.heap.FunFrames base outer
 frf:∀b∈frs outer,H b=none
 hok:HOk P w H s.heap
 bare:AllBare s.gens
def CE (outer:List Env) (P:Program) (w:World) (H:Hp) (s:Shared) (Q:VK) (u:Value) (s':Shared):Prop:=
 ∃v H',s'.os=s.os∧AllBare s'.gens∧Un (frs outer) [] H H' s.heap s'.heap∧HOk P w H' s'.heap∧RelV v u∧Q v H'
def CR (CX:CXT) (outer:List Env) (P:Program) (w:World) (H:Hp) (s:Shared) (Q:VK) (E:XK) (r:Result) (s':Shared):Prop:=
 match r with
 | .ok (.ret u)=>CE outer P w H s Q u s'
 | .ok _=>False
 | .error e=>CX outer H s E e s'
structure FnOk (P:Program) (w:World) (K:PySem.W.Frag) (mg:Str→Option Value) (base:Heap) (CX:CXT) (k:Nat) (f:Addr) (fd:FuncData) (ps:List Str) (sp:Sp):Prop where
 len:∀vs H Q E,sp vs H Q E→vs.length=ps.length
 run:∀(A:Around) (outer:List Env) (s:Shared) (H:Hp) (args:Args) (us:List Value) (vs:List V) (Q:VK) (E:XK),Room k A→Env0 P w K mg base A outer s H→BindsTo s fd args (ps.zip us)→Vals vs us→sp vs H Q E→
  codeAny (model P w) A (.call (.ref f) args) (CR CX outer P w H s Q E) s
theorem FnOk.imp {P:Program} {w:World} {K:PySem.W.Frag} {mg:Str→Option Value} {base:Heap} {CX:CXT} {k:Nat} {f:Addr} {fd:FuncData} {ps:List Str} {sp sp':Sp} (F:FnOk P w K mg base CX k f fd ps sp)
  (h:∀vs H Q E,sp' vs H Q E→sp vs H Q E):FnOk P w K mg base CX k f fd ps sp':=
 ⟨fun vs H Q E q=>F.len vs H Q E (h _ _ _ _ q),fun A outer s H args us vs Q E hr he hb hv hs=>F.run A outer s H args us vs Q E hr he hb hv (h _ _ _ _ hs)⟩
section
variable {X:Cx} {pins:List (Addr×Obj)} {σ:St} {H:Hp} {s s':Shared}
theorem Inv.BR (I:Inv X pins σ H s):Env0 X.prog X.w X.K X.mg X.base X.A X.stack s H:=
 ⟨I.ok.frames,I.ok.mod,I.bs,Nat.le_trans I.ok.bsz I.sz,I.stack,I.pR,I.hok,I.bare⟩
theorem Inv.after {Q:VK} {u:Value} (I:Inv X pins σ H s) (h:CE X.stack X.prog X.w H s Q u s'):EP X pins σ Q u s':=by
 obtain ⟨v,H',os,bare,un,hok,r,q⟩:=h
 obtain ⟨hh,g,d,t,os'⟩:=s'
 obtain rfl:os'=s.os:=os
 exact ⟨v,H',I.call (h':=hh) (g':=g) (d':=d) (t':=t) (ch:=[]) un hok bare (fun b z=>absurd z (by simp)),r,q⟩
end
def zJ (sp:Sp) (dvs:List V) (E:XK) (t:TA):TE:=fun σ H Q=>t σ H fun vs H1=>sp (vs++dvs) H1 Q E
def Binds (K:PySem.W.Frag) (fd:FuncData) (ps:List Str) (ds:List Value):Prop:=
 ∀(s:Shared) (us:List Value),K.In s.heap→(us++ds).length=ps.length→BindsTo s fd ⟨us,[]⟩ (ps.zip (us++ds))
theorem Binds.all {K:PySem.W.Frag} {fd:FuncData} {ps:List Str} (h:∀us:List Value,us.length=ps.length→bindArgs fd ⟨us,[]⟩=pure (ps.zip us)):Binds K fd ps []:=fun s us _ hl=>by
 rw [List.append_nil] at hl ⊢
 exact .of_eq (h us hl)
def Passes (CX:CXT) (X:Cx) (E:XK):Prop:=∀(pins:List (Addr×Obj)) (σ:St) (H:Hp) (s:Shared) (e:Value) (s':Shared),Inv X pins σ H s→CX X.stack H s E e s'→X.xe e s'
section
variable {X:Cx} {CX:CXT} {k:Nat} {f C:Addr} {fd:FuncData} {ps:List Str} {sp:Sp} {dvs:List V} {ds:List Value} {E:XK} {x m:Str} {p pos apos:Pos} {e o:Expr} {es:List Expr} {ta:TE} {t:TA}
theorem xR {pins:List (Addr×Obj)} {σ:St} {H:Hp} {s:Shared} {Q:VK} {us:List Value} {vs:List V} (F:FnOk X.prog X.w X.K X.mg X.base CX k f fd ps sp) (hr:Room k X.A) (hb:Binds X.K fd ps ds) (hd:Vals dvs ds) (hx:Passes CX X E)
  (I:Inv X pins σ H s) (r:Vals vs us) (h:sp (vs++dvs) H Q E):wpAny (model X.prog X.w) X.A (call (.ref f) us) (EP X pins σ Q) X.xe s:=by
 have r2:Vals (vs++dvs) (us++ds):=r.append hd
 have hl:(us++ds).length=ps.length:=by rw [←r2.length];exact F.len _ _ _ _ h
 refine wpAny_call (codeAny_mono (F.run X.A X.stack s H ⟨us,[]⟩ (us++ds) (vs++dvs) Q E hr I.BR (hb s us I.kIn hl) r2 h) fun r s' hq=>?_)
 cases r with
 | error e=>exact hx pins σ H s e s' I hq
 | ok fl=>
  cases fl with
  | ret u=>exact I.after hq
  | next=>exact False.elim hq
  | brk=>exact False.elim hq
  | cont=>exact False.elim hq
theorem v9 (F:FnOk X.prog X.w X.K X.mg X.base CX k f fd ps sp) (hr:Room k X.A) (hg:Gl X x) (hm:X.mg x=some (.ref f)) (hk:PySem.W.keepIn X.K (.ref f)=true) (hb:Binds X.K fd ps ds) (hd:Vals dvs ds) (hx:Passes CX X E)
  (ha:PA X (e::es) t) (hdb:(x==("__debug__":Str))=false:=by decide) (he:starEach (e::es) X.env=(false,eval e X.env)::starEach es X.env:=by rfl) (hpl:(backTo pos (starEach es X.env)).any (·.1)=false:=by rfl):
  PE X (.Call (.Name x p) (e::es) [] pos) (zJ sp dvs E t):=by
 intro pins s σ H Q I h
 refine wpAny_Call_Name_kw (wo I hg hm ?_ hdb)
 refine PySem.W.callWith_K (h₀:=X.base) I.ok.mod.kin hk (thn (ha pos pins s σ H _ I h) fun us s1 ⟨vs,H1,I1,r,q⟩=>⟨I1.kIn,?_⟩) he hpl
 exact xR F hr hb hd hx I1 r q
end
section
variable {X:Cx} {CX:CXT} {k:Nat} {f C:Addr} {fd:FuncData} {ps ks:List Str} {sp:Sp} {E:XK} {x m:Str} {p pos apos kpos:Pos} {e o:Expr} {es:List Expr} {kws:List Keyword} {te ta:TE} {t tk:TA} {nm:Option Str}
variable {g:List Value→List Value→List Value} {gV:List V→List V→List V}
end
structure FnScope (N P:List Str) (sc:Scope):Prop where
 kind:sc.kind=.function
 co:sc.isCoroutine=false
 gen:sc.isGenerator=false
 nd:N.Nodup
 pre:N.take P.length=P
 par:∀x∈P,sc.names.lookup x=some .local∨sc.names.lookup x=some .cell
 nofree:∀y∈sc.names,y.2≠.free
theorem lq {kindOf:Str→Option NameKind} {x:Str}:∀{binds:List (Str×Value)} {m:Str→Option Value},(∀v,(x,v)∉binds)→bindL kindOf binds m x=m x
 | [],_,_=>rfl
 | (n,v)::r,m,h=>by
  unfold bindL
  rw [lq fun w hw=>h w (List.mem_cons_of_mem _ hw)]
  split
  ·have:x≠n:=by rintro rfl;exact h v List.mem_cons_self
   simp [this]
  ·rfl
theorem lu {kindOf:Str→Option NameKind} {x:Str}:∀{binds:List (Str×Value)} {m:Str→Option Value},(∀v,(x,v)∉binds)→bindC kindOf binds m x=m x
 | [],_,_=>rfl
 | (n,v)::r,m,h=>by
  unfold bindC
  rw [lu fun w hw=>h w (List.mem_cons_of_mem _ hw)]
  split
  ·rfl
  ·have:x≠n:=by rintro rfl;exact h v List.mem_cons_self
   simp [this]
theorem lr {kindOf:Str→Option NameKind} {x:Str} {v:Value}:∀{P:List Str} {vs:List Value} {i:Nat} {m:Str→Option Value},P.Nodup→P[i]?=some x→vs[i]?=some v→kindOf x=some .local→
  bindL kindOf (P.zip vs) m x=some v
 | [],_,_,_,_,h,_,_=>by simp at h
 | _::_,[],_,_,_,_,h,_=>by simp at h
 | p::P,w::vs,0,m,nd,h1,h2,hk=>by
  simp at h1 h2;subst h1;subst h2
  show bindL kindOf ((p,w)::P.zip vs) m p=_
  unfold bindL
  rw [lq fun v hv=>(List.nodup_cons.mp nd).1 (List.of_mem_zip hv).1,if_pos hk]
  simp
 | p::P,w::vs,i+1,m,nd,h1,h2,hk=>by
  show bindL kindOf ((p,w)::P.zip vs) m x=_
  unfold bindL
  exact lr (i:=i) (List.nodup_cons.mp nd).2 (by simpa using h1) (by simpa using h2) hk
theorem lx {kindOf:Str→Option NameKind} {x:Str} {v:Value}:∀{P:List Str} {vs:List Value} {i:Nat} {m:Str→Option Value},P.Nodup→P[i]?=some x→vs[i]?=some v→kindOf x≠some .local→
  bindC kindOf (P.zip vs) m x=some v
 | [],_,_,_,_,h,_,_=>by simp at h
 | _::_,[],_,_,_,_,h,_=>by simp at h
 | p::P,w::vs,0,m,nd,h1,h2,hk=>by
  simp at h1 h2;subst h1;subst h2
  show bindC kindOf ((p,w)::P.zip vs) m p=_
  unfold bindC
  rw [lu fun v hv=>(List.nodup_cons.mp nd).1 (List.of_mem_zip hv).1,if_neg hk]
  simp
 | p::P,w::vs,i+1,m,nd,h1,h2,hk=>by
  show bindC kindOf ((p,w)::P.zip vs) m x=_
  unfold bindC
  exact lx (i:=i) (List.nodup_cons.mp nd).2 (by simpa using h1) (by simpa using h2) hk
def start (N:List Str) (vs:List V):St:=vs.map some++List.replicate (N.length-vs.length) none
abbrev pA (CX:CXT) (P:Program) (w:World) (K:PySem.W.Frag) (mg:Str→Option Value) (base:Heap) (N:List Str) (qual:Str) (scope:Scope) (f:Addr) (cd:Value) (A:Around) (outer:List Env) (s:Shared) (H:Hp) (E:XK):Cx where
 prog:=P
 w:=w
 K:=K
 mg:=mg
 base:=base
 A:=A.deeper (envOfC qual scope s.heap.objs.size f cd)
 N:=N
 s₀:=s
 H₀:=H
 env:=envOfC qual scope s.heap.objs.size f cd
 outer:=outer
 stack:=envOfC qual scope s.heap.objs.size f cd::outer
 ex:=[]
 calm:=true
 fn:=fun _=>true
 pn:=[]
 xe:=fun e s'=>wpAny (model P w) (A.deeper (envOfC qual scope s.heap.objs.size f cd)) (leaving (envOfC qual scope s.heap.objs.size f cd) e) (fun _ s''=>CX outer H s E e s'') (fun e' s''=>CX outer H s E e' s'') s'
theorem oe {sc:Scope} {n:Nat} {x:Str} (h:sc.names.lookup x=some .cell):∃c,(cellsFrom n sc.names []).lookup x=some c:=by
 have q:=PySem.W.cellsFrom_some sc.names n [] (.inl h)
 exact Option.isSome_iff_exists.mp q
theorem rO {CX:CXT} {P:Program} {w:World} {K:PySem.W.Frag} {mg:Str→Option Value} {base:Heap} {N ps:List Str} {qual:Str} {scope:Scope} {f:Addr} {cd:Value} {A:Around} {outer:List Env} {s s1:Shared} {H:Hp} {E:XK} {us:List Value} {vs:List V}
  (S:FnScope N ps scope) (hd:A.handled=none) (e0:Env0 P w K mg base A outer s H) (hl:vs.length=ps.length) (r:Vals vs us)
  (x:InCallC s s.heap.objs.size (bindL (envOfC qual scope s.heap.objs.size f cd).kindOf (ps.zip us) fun _=>none) (cellsFrom (s.heap.objs.size+1) scope.names []) (bindC (envOfC qual scope s.heap.objs.size f cd).kindOf (ps.zip us) fun _=>none) s1):
  Inv (pA CX P w K mg base N qual scope f cd A outer s H E) [] (start N vs) H s1:=by
 have hpl:ps.length≤N.length:=by have:=congrArg List.length S.pre;rw [List.length_take] at this;omega
 obtain ⟨h1,tk,rfl,hk⟩:=x.done
 have noA:∀b:Addr,b∉(pA CX P w K mg base N qual scope f cd A outer s H E).ex:=fun b z=>absurd (show b∈([]:List Addr) from z) (by simp)
 refine ⟨⟨e0.mod,S.kind,rfl,rfl,Nat.le_refl _,fun y z c h1 h2=>?_,fun y hy=>?_,fun y c _ h=>?_,fun _=>hd,Around.frames_deeper e0.frames,.inr ⟨rfl,rfl⟩,fun b z=>absurd z (noA b),e0.bs,e0.bsz,fun b _ _=>noA b,fun b z=>absurd z (noA b),e0.jA,e0.frf⟩,
  rfl,e0.bare,Un.kept hk,⟨_,x.toInCall.ns,fun i y v h1 h2 h3=>?_⟩,fun y c h=>⟨_,x.cell y c h⟩,e0.hok.fresh (Nat.le_refl _),fun y c h=>?_,fun p hp=>absurd (show p∈([]:List (Addr×Obj)) from hp) (by simp),e0.hok.kept hk,?_⟩
 ·exact name_of_addr x.apart (PySem.mem_of_lookup h1) (PySem.mem_of_lookup h2)
 ·have hy:scope.names.lookup y=some .cell∨scope.names.lookup y=some .free:=hy
  rcases hy with hy | hy
  ·exact oe hy
  ·exact absurd rfl (S.nofree _ (PySem.mem_of_lookup hy))
 ·exact Nat.le_of_lt (x.above y c (PySem.mem_of_lookup h))
 ·have hi:i < vs.length:=by
   unfold start at h2
   by_cases hi:i < vs.length
   ·exact hi
   ·rw [List.getElem?_append_right (by simpa using hi)] at h2
    rw [List.getElem?_replicate] at h2
    split at h2 <;> cases h2
  have ha:vs[i]?=some v:=by
   unfold start at h2
   rw [List.getElem?_append_left (by simpa using hi),List.getElem?_map] at h2
   cases e:vs[i]? with
   | none=>rw [e] at h2;cases h2
   | some a=>rw [e] at h2;cases h2;rfl
  obtain ⟨u,hu,rv⟩:=r.get ha
  have hp:ps[i]?=some y:=by
   rw [←S.pre,List.getElem?_take_of_lt (by omega)];exact h1
  have ndP:ps.Nodup:=by rw [←S.pre];exact S.nd.sublist (List.take_sublist _ _)
  refine ⟨u,rv,?_⟩
  rcases S.par y (List.mem_of_getElem? hp) with k | k
  ·exact .inl ⟨k,lr ndP hp hu k⟩
  ·obtain ⟨c,e⟩:=oe (n:=s.heap.objs.size+1) k
   refine .inr ⟨.inl k,c,e,?_⟩
   have q:=x.cell y c e
   rw [lx ndP hp hu (by show scope.names.lookup y≠_;rw [k];decide)] at q
   exact q
 ·exact e0.hok.fresh (Nat.le_of_lt (x.above y c (PySem.mem_of_lookup h)))
 ·unfold start
  show _=N.length
  rw [List.length_append,List.length_map,List.length_replicate]
  omega
theorem AQ {CX:CXT} {P:Program} {w:World} {K:PySem.W.Frag} {mg:Str→Option Value} {base:Heap} {k:Nat} {f:Addr} {name qual:Str} {params:Arguments} {body:List Stmt} {scope:Scope} {dV kV doc pm cdv ct oc:Value} {an od:Option Addr}
  {osl:Array (Option Value)} {N ps:List Str} {sp:Sp} (lk:K.lookup f=some ⟨oc,od,.func (PySem.W.fnOf name qual params body scope dV kV doc pm an cdv ct),osl⟩) (hcd:PySem.W.codeIn K cdv qual=true) (S:FnScope N ps scope)
  (len:∀vs H Q E,sp vs H Q E→vs.length=ps.length)
  (hbody:∀(A:Around) (outer:List Env) (s:Shared) (H:Hp) (vs:List V) (Q:VK) (E:XK),Room k (A.deeper (envOfC qual scope s.heap.objs.size f cdv))→sp vs H Q E→
   ∃t,PSs (pA CX P w K mg base N qual scope f cdv A outer s H E) body t∧t {nx:=fun _ H'=>Q .non H',rt:=Q} (start N vs) H):
  FnOk P w K mg base CX (k+1) f (PySem.W.fnOf name qual params body scope dV kV doc pm an cdv ct) ps sp:=by
 refine ⟨len,fun A outer s H args us vs Q E hr e0 hb r hsp=>?_⟩
 have hl:=len _ _ _ _ hsp
 have KX:K.In s.heap:=e0.mod.kin.keeps fun b o e=>(e0.bs b o e).1
 have lim:s.heap.NoLimit:=e0.mod.nolimit.keeps fun b o e=>(e0.bs b o e).1
 have hkind:∀y∈ps.zip us,scope.names.lookup y.1=some .local∨(scope.names.lookup y.1=some .cell∧((cellsFrom (s.heap.objs.size+1) scope.names []).lookup y.1).isSome=true):=fun ⟨n,v⟩ hy=>by
  rcases S.par n (List.of_mem_zip hy).1 with q | q
  ·exact .inl q
  ·exact .inr ⟨q,PySem.W.cellsFrom_some _ _ _ (.inl q)⟩
 refine codeAny_call_function hr.depth (KX _ _ lk) rfl S.co S.gen rfl (PySem.W.codeRec_of KX hcd) (hb _ _ _ _ ?_)
 refine wpAny_newFunctionEnv_cells S.kind hkind fun env he s1 x=>?_
 subst he
 refine ⟨lim.keeps x.toInCall.keep,codeAny_func ?_⟩
 obtain ⟨t,ht,hq⟩:=hbody A outer s H vs Q E (hr.deeper _) hsp
 have I:Inv (pA CX P w K mg base N qual scope f cdv A outer s H E) [] (start N vs) H s1:=rO S hr.hd e0 hl r x
 refine wpAny_mono (ht [] s1 (start N vs) H _ I hq) (fun fl s' hs=>?_) fun e s' hs=>hs
 have fin:∀{σ':St} {H':Hp} {v:V} {u:Value},Inv (pA CX P w K mg base N qual scope f cdv A outer s H E) [] σ' H' s'→RelV v u→Q v H'→CE outer P w H s Q u s':=
  fun {σ' H' v u} J rv q=>⟨v,H',J.os,J.bare,J.base,J.hok,rv,q⟩
 cases fl with
 | ret u=>
  obtain ⟨v,σ',H',J,rv,q⟩:=hs
  exact fin J rv q
 | next=>
  obtain ⟨σ',H',J,q⟩:=hs
  exact fin (v:=V.non) (u:=Value.none) J rfl q
 | brk=>
  obtain ⟨_,_,_,q⟩:=hs
  exact False.elim q
 | cont=>
  obtain ⟨_,_,_,q⟩:=hs
  exact False.elim q
end L2
namespace L2
open PySem PySem.Spec PyProof.Rows
section
variable {X:Cx} {x:Str} {p pos:Pos} {e:Expr} {es:List Expr} {t:TA} {id T:String} {r:List V→Hp→VK→Prop}
def tCB (r:List V→Hp→VK→Prop) (t:TA):TE:=fun σ H Q=>t σ H fun vs H1=>r vs H1 Q
theorem jh (hc:cJ X (.builtin id) r) (hg:Gl X x) (hm:X.mg x=none) (hv:bootBuiltins x=some (.builtin id)) (ha:PA X (e::es) t) (hn:x≠"__name__":=by decide) (hdb:(x==("__debug__":Str))=false:=by decide)
  (he:starEach (e::es) X.env=(false,eval e X.env)::starEach es X.env:=by rfl) (hpl:(backTo pos (starEach es X.env)).any (·.1)=false:=by rfl):PE X (.Call (.Name x p) (e::es) [] pos) (tCB r t):=by
 intro pins s σ H Q I h
 refine wpAny_Call_Name_kw (fU I hg hm hv ?_ hn hdb)
 exact PyProof.Rows.callWith_builtin1 (thn (ha pos pins s σ H _ I h) fun us s1 ⟨vs,H1,I1,r1,q1⟩=>hc pins s1 σ H1 vs us Q I1 r1 q1) he hpl
theorem kN (hc:cJ X (.type T) r) (hg:Gl X x) (hm:X.mg x=none) (hv:bootBuiltins x=some (.type T)) (ha:PA X (e::es) t) (hn:x≠"__name__":=by decide) (hdb:(x==("__debug__":Str))=false:=by decide)
  (he:starEach (e::es) X.env=(false,eval e X.env)::starEach es X.env:=by rfl) (hpl:(backTo pos (starEach es X.env)).any (·.1)=false:=by rfl):PE X (.Call (.Name x p) (e::es) [] pos) (tCB r t):=by
 intro pins s σ H Q I h
 refine wpAny_Call_Name_kw (fU I hg hm hv ?_ hn hdb)
 exact PyProof.Rows.callWith_type1 (thn (ha pos pins s σ H _ I h) fun us s1 ⟨vs,H1,I1,r1,q1⟩=>hc pins s1 σ H1 vs us Q I1 r1 q1) he hpl
end
end L2
namespace HT
open PySem PyProof.Rows
section
open PySem.SeqAt
open PySem.AutoSeq1 (wpAny_loadPart')
open PySem.MeetsSeq PySem.MeetsSeq2 PySem.MeetsSeq3
end
section
variable {prog:Program} {w:World} {A:Around} {E:Value→Shared→Prop} {s:Shared}
theorem wM {t b:Addr} {vs ws:List Value} {Q:Value→Shared→Prop} (ht:IsTup s.heap t vs.toArray) (hb:IsTup s.heap b ws.toArray) (hv:vs≠[])
  (h1:ws=[]→Q (.ref t) s) (h2:ws≠[]→Q (.ref s.heap.objs.size) {s with heap:=s.heap.push {cls:=.type "tuple",data:=.seq (vs++ws).toArray}})
  (hsz:vs.length+ws.length≤sizeLine):wpAny (model prog w) A (binaryOp .Add (.ref t) (.ref b)) Q E s:=by
 obtain ⟨⟨cls,dd,data,sl⟩,ho,hc,n,hd⟩:=id ht
 obtain ⟨⟨cls2,dd2,data2,sl2⟩,ho2,hc2,n2,hd2⟩:=id hb
 simp only at hc hd hc2 hd2
 subst hc hd hc2 hd2
 have e:vs.toArray++ws.toArray=(vs++ws).toArray:=by simp
 by_cases hw:ws=[]
 ·exact concat_meets ⟨_,ho,rfl⟩ ⟨_,ho2,rfl⟩ noFill_tuple_add seq_tuple_add PySem.F.slot_tuple_add PySem.F.entry_tuple_add (PySem.F.args_tuple_add_2 _ _)
   (tuple_addW1 t b vs.toArray ws.toArray n n2 dd dd2 sl sl2 (by simpa using hv) (by simp [hw])) ⟨ho,ho2,h1 hw⟩
 ·refine concat_meets ⟨_,ho,rfl⟩ ⟨_,ho2,rfl⟩ noFill_tuple_add seq_tuple_add PySem.F.slot_tuple_add PySem.F.entry_tuple_add (PySem.F.args_tuple_add_2 _ _)
   (tuple_addW2 t b vs.toArray ws.toArray n n2 dd dd2 sl sl2 (by simpa using hv) (by simpa using hw) (by rw [List.size_toArray,List.size_toArray];exact hsz)) ⟨ho,ho2,?_⟩
  rw [e]
  exact h2 hw
def sIx (n d:Nat):Option Int→Nat
 | none=>d
 | some v=>if v < 0 then (v+(n:Int)).toNat else min v.toNat n
theorem xP (n d:Nat) (hd:d≤n) (o:Option Int):sIx n d o≤n:=by
 cases o with
 | none=>exact hd
 | some v=>
  show (if v < 0 then (v+(n:Int)).toNat else min v.toNat n)≤n
  by_cases hv:v < 0
  ·rw [if_pos hv];omega
  ·rw [if_neg hv];exact Nat.min_le_right _ _
theorem qv (v:Int) (n d:Nat):(if v < 0 then max (v+(n:Int)) 0 else min v (n:Int))=((sIx n d (some v):Nat):Int):=by
 show (if v < 0 then max (v+(n:Int)) 0 else min v (n:Int))=(((if v < 0 then (v+(n:Int)).toNat else min v.toNat n):Nat):Int)
 by_cases hv:v < 0
 ·simp only [if_pos hv];omega
 ·simp only [if_neg hv];omega
theorem pG (lo hi:Option Int) (n:Nat):Builtin.Slice.sliceAdjust lo hi 1 (n:Int)=(((sIx n 0 lo:Nat):Int),((sIx n n hi:Nat):Int)):=by
 have h1:¬((1:Int) < 0):=by omega
 unfold Builtin.Slice.sliceAdjust
 simp only [h1,if_false]
 refine Prod.ext ?_ ?_
 ·cases lo with
  | none=>rfl
  | some v=>exact qv v n 0
 ·cases hi with
  | none=>rfl
  | some v=>exact qv v n n
theorem oX (i j:Nat):Builtin.Slice.slicePlaces (i:Int) (j:Int) 1=j-i:=by
 unfold Builtin.Slice.slicePlaces
 have h1:(1:Int) > 0:=by omega
 simp only [h1,if_true,Int.ediv_one]
 split <;> omega
theorem i4 {v:Value} {o:Option Int} {Q:Option Int→Shared→Prop} (p:IsPart v o) (h:Q o s):wpAny (model prog w) A (Builtin.Slice.slicePartIndex v) Q E s:=by
 cases p with
 | none=>exact slicePart_none h
 | int i t=>exact slicePart_int h
theorem dq {sl:Addr} {vl vu:Value} {lo hi:Option Int} {n:Nat} {Q:Int×Int×Nat→Shared→Prop} (hs:s.heap.IsSliceOf sl vl vu .none) (pl:IsPart vl lo) (pu:IsPart vu hi)
  (h:Q (((sIx n 0 lo:Nat):Int),1,sIx n n hi-sIx n 0 lo) s):wpAny (model prog w) A (Builtin.Slice.sliceApplied (.ref sl) (pure (n:Int))) Q E s:=by
 obtain ⟨os,hos,hcs,hds⟩:=id hs
 unfold Builtin.Slice.sliceApplied Builtin.Slice.sliceFields
 refine wpAny_bind (wpAny_bind (wpAny_field hos hds (x:=vl) rfl (wpAny_bind (wpAny_field hos hds (x:=vu) rfl (wpAny_bind (wpAny_field hos hds (x:=.none) rfl (wpAny_pure ?_)))))))
 refine wpAny_bind (slicePart_none ?_)
 show wpAny _ _ (if ((1:Int)==0)=true then _ else _) _ _ s
 rw [if_neg (by decide)]
 refine wpAny_bind (i4 pl (wpAny_bind (i4 pu (wpAny_bind (wpAny_pure ?_)))))
 show wpAny _ _ (match Builtin.Slice.sliceAdjust lo hi 1 (n:Int) with | (lo,hi)=>pure (lo,(1:Int),Builtin.Slice.slicePlaces lo hi 1)) _ _ s
 rw [pG lo hi n]
 show wpAny _ _ (pure (((sIx n 0 lo:Nat):Int),(1:Int),Builtin.Slice.slicePlaces ((sIx n 0 lo:Nat):Int) ((sIx n n hi:Nat):Int) 1)) _ _ s
 rw [oX]
 exact wpAny_pure h
theorem tK (xs:Array Value) (i k:Nat):((List.range k).filterMap fun (m:Nat)=>xs[((i:Int)+(m:Int)*1).toNat]?).toArray=((xs.toList.drop i).take k).toArray:=by
 have e:(fun (m:Nat)=>xs[((i:Int)+(m:Int)*1).toNat]?)=fun m=>xs[i+m]?:=by
  funext m
  have:((i:Int)+(m:Int)*1).toNat=i+m:=by omega
  rw [this]
 rw [e]
 have:=pick_run xs i k
 rw [List.filterMap_map] at this
 have e2:((fun x=>xs[x]?)∘fun x=>i+x)=fun m=>xs[i+m]?:=rfl
 rw [e2] at this
 rw [this]
theorem gy {t sl:Addr} {items:Array Value} {vl vu:Value} {lo hi:Option Int} {Q:Value→Shared→Prop} (ht:IsTup s.heap t items) (hs:s.heap.IsSliceOf sl vl vu .none) (pl:IsPart vl lo) (pu:IsPart vu hi)
  (hw:¬(sIx items.size 0 lo=0∧sIx items.size items.size hi=items.size))
  (h:Q (.ref s.heap.objs.size) {s with heap:=s.heap.push {cls:=.type "tuple",data:=.seq ((items.toList.drop (sIx items.size 0 lo)).take (sIx items.size items.size hi-sIx items.size 0 lo)).toArray}})
  (hsz:items.size≤sizeLine):wpAny (model prog w) A (getItem (.ref t) (.ref sl)) Q E s:=by
 have htake:sizeOk (.seq ((items.toList.drop (sIx items.size 0 lo)).take (sIx items.size items.size hi-sIx items.size 0 lo)).toArray):=by
  show ((items.toList.drop (sIx items.size 0 lo)).take (sIx items.size items.size hi-sIx items.size 0 lo)).toArray.size≤sizeLine
  rw [List.size_toArray,List.length_take,List.length_drop,Array.length_toList]
  omega
 have hj:sIx items.size items.size hi≤items.size:=xP _ _ (Nat.le_refl _) hi
 obtain ⟨os,hos,hcs,hds⟩:=id hs
 have hTs:s.TypeIs (.ref sl) "slice":=⟨os,hos,hcs⟩
 unfold getItem
 try with_reducible refine wpAny_holding ?_
 first | refine wpAny_bind (wpAny_pure ?_) | skip
 refine wpAny_bind (wpAny_sequenceKey ht.typeIs (by decide) ?_)
 refine wpAny_bind (wpAny_callSpecial?_slot (name:=Str.ofString "__getitem__") ht.typeIs PyProof.Rows.slot_tuple_getitem
  (wpAny_call_entry PyProof.Rows.slot_tuple_getitem ht.typeIs entry_tuple_getitem ?_ (args_tuple_getitem _ _)))
 show wpAny _ _ (Builtin.Tuple.tupleItemsOf (.ref t) >>=_) _ _ s
 refine wpAny_bind (tupleItemsOf_ ht ?_)
 refine wpAny_bind (wpAny_typeOf hTs ?_)
 rw [if_pos (by decide)]
 refine wpAny_bind (dq hs pl pu ?_)
 have hno:¬((((sIx items.size 0 lo:Nat):Int)==0&&(1:Int)==1&&(sIx items.size items.size hi-sIx items.size 0 lo)==items.size)=true):=by
  intro q
  rw [Bool.and_eq_true,Bool.and_eq_true] at q
  have q1:((sIx items.size 0 lo:Nat):Int)=0:=eq_of_beq q.1.1
  have q2:sIx items.size items.size hi-sIx items.size 0 lo=items.size:=eq_of_beq q.2
  exact hw ⟨by omega,by omega⟩
 show wpAny _ _ (if (((sIx items.size 0 lo:Nat):Int)==0&&(1:Int)==1&&(sIx items.size items.size hi-sIx items.size 0 lo)==items.size)=true then _ else _) _ _ s
 rw [if_neg hno,tK]
 first
  | exact wpAny_bind (m:=Builtin.Tuple.tupleExact _) (wpAny_newObj_type (wpAny_pure ⟨_,rfl,wpAny_pure h⟩) htake)
  | exact wpAny_bind (m:=Builtin.Tuple.tupleExact _) (wpAny_newObj_type (wpAny_bind (wpAny_pure (wpAny_pure ⟨_,rfl,wpAny_pure h⟩))) htake)
  | exact wpAny_bind (wpAny_bind (m:=Builtin.Tuple.tupleExact _) (wpAny_newObj_type (wpAny_pure (wpAny_pure ⟨_,rfl,wpAny_pure h⟩)) htake))
  | exact wpAny_bind (wpAny_bind (m:=Builtin.Tuple.tupleExact _) (wpAny_newObj_type (wpAny_pure ⟨_,rfl,wpAny_pure h⟩) htake))
end
end HT
namespace L2
open PySem PySem.Spec PyProof.Rows
abbrev TO:=St→Hp→(Option Int→Hp→Prop)→Prop
def PO (X:Cx) (e:Option Expr) (t:TO):Prop:=
 ∀(pins:List (Addr×Obj)) (s:Shared) (σ:St) (H:Hp) (Q:Option Int→Hp→Prop),Inv X pins σ H s→t σ H Q→
  wpAny (model X.prog X.w) X.A (evalPart e X.env) (fun u s'=>∃o H',Inv X pins σ H' s'∧IsPart u o∧Q o H') X.xe s
def u7:TO:=fun _ H Q=>Q none H
def zE (t:TE):TO:=fun σ H Q=>t σ H fun x H1=>∃i,x=.int i∧Q (some i) H1
section
variable {X:Cx} {e:Expr} {te:TE} {lo hi:Option Expr} {tl th:TO} {pos p2:Pos}
theorem vR:PO X none u7:=by
 intro pins s σ H Q I h
 rw [evalPart_none]
 exact wpAny_pure ⟨none,H,I,.none,h⟩
theorem vQ (h:PE X e te):PO X (some e) (zE te):=by
 intro pins s σ H Q I hw
 rw [evalPart_some]
 refine thn (h pins s σ H _ I hw) fun u s1 ⟨x,H1,I1,r1,q1⟩=>?_
 obtain ⟨i,rfl,q⟩:=q1
 obtain ⟨t,rfl⟩:=r1
 exact ⟨some i,H1,I1,.int i t,q⟩
def SlR (X:Cx) (r:V→Option Int→Option Int→Hp→VK→Prop):Prop:=
 ∀(pins:List (Addr×Obj)) (s:Shared) (σ:St) (H:Hp) (x:V) (v vl vu:Value) (lo hi:Option Int) (sl:Addr) (Q:VK),Inv X pins σ H s→RelV x v→s.heap.IsSliceOf sl vl vu .none→IsPart vl lo→IsPart vu hi→r x lo hi H Q→
  ∃T id,typeLookup (.type T) "__getitem__"=pure (some (.builtin id))∧s.TypeIs v T∧wpAny (model X.prog X.w) X.A (getItem v (.ref sl)) (EP X pins σ Q) X.xe s
def tSl (r:V→Option Int→Option Int→Hp→VK→Prop) (te:TE) (tl th:TO):TE:=fun σ H Q=>te σ H fun x H1=>tl σ H1 fun l H2=>th σ H2 fun u H3=>r x l u H3 Q
theorem tO {r:V→Option Int→Option Int→Hp→VK→Prop} (hr:SlR X r) (he:PE X e te) (hl:PO X lo tl) (hu:PO X hi th):PE X (.Subscript e (.Slice lo hi none p2) pos) (tSl r te tl th):=by
 intro pins s σ H Q I h
 refine Subscript_ (thn (he pins s σ H _ I h) fun v s1 ⟨x,H1,I1,r1,q1⟩=>?_)
 refine wpAny_Slice (thn (hl pins s1 σ H1 _ I1 q1) fun vl s2 ⟨l,H2,I2,pl,q2⟩=>thn (hu pins s2 σ H2 _ I2 q2) fun vu s3 ⟨u,H3,I3,pu,q3⟩=>?_)
 rw [evalPart_none]
 refine wpAny_pure ?_
 have I4:Inv X pins σ H3 {s3 with heap:=s3.heap.push {cls:=.type "slice",data:=.fields #[vl,vu,.none]}}:=I3.kept (t':=s3.toks) fun b ob q=>Heap.get?_push_of_some _ q
 obtain ⟨T,id,hT,ht,hg⟩:=hr pins {s3 with heap:=s3.heap.push {cls:=.type "slice",data:=.fields #[vl,vu,.none]}} σ H3 x v vl vu l u s3.heap.objs.size Q I4 r1 (Heap.IsSliceOf.new ..) pl pu q3
 show wpAny (model X.prog X.w) X.A (subscriptTail e (.Slice lo hi none p2) v (.ref s3.heap.objs.size)) (EP X pins σ Q) X.xe {s3 with heap:=s3.heap.push {cls:=.type "slice",data:=.fields #[vl,vu,.none]}}
 exact tail_any (ops:=[.ref s3.heap.objs.size,v]) ht hT hg (by with_unfolding_all rfl)
def jI (xs:List V) (lo hi:Option Int):List V:=(xs.drop (HT.sIx xs.length 0 lo)).take (HT.sIx xs.length xs.length hi-HT.sIx xs.length 0 lo)
theorem iC (xs:List V) (lo hi:Option Int):(jI xs lo hi).length≤xs.length:=by
 unfold jI
 rw [List.length_take,List.length_drop]
 omega
def Bx (K:PySem.W.Frag):V→Option Int→Option Int→Hp→VK→Prop:=fun x lo hi H Q=>∃a xs,x=.ref a∧SqT K H a xs∧
 ¬(HT.sIx xs.length 0 lo=0∧HT.sIx xs.length xs.length hi=xs.length)∧∀p,H p=none→Q (.ref p) (upd H p (.tup (jI xs lo hi)))
theorem xJ:SlR X (Bx X.K):=by
 intro pins s σ H x v vl vu lo hi sl Q I rx hs pl pu h
 obtain ⟨a,xs,rfl,hx,hw,q⟩:=h
 cases rx
 obtain ⟨its,r,ht,hz⟩:=I.tuple hx
 have hlen:its.toArray.size=xs.length:=by rw [List.size_toArray];exact r.length.symm
 refine ⟨"tuple",_,PyProof.Rows.slot_tuple_getitem.lookup,ht.typeIs,?_⟩
 refine HT.gy ht hs pl pu (by rw [hlen];exact hw) ?_ (by rw [hlen];exact hz)
 rw [hlen]
 refine ⟨.ref s.heap.objs.size,_,I.laid (t':=s.toks) (o:=.tup (jI xs lo hi)) (fun b ob q=>Heap.get?_push_of_some _ q) (Nat.le_refl _) ?_,rfl,q _ (I.hok.fresh (Nat.le_refl _))⟩
 exact ⟨Nat.le_trans (iC xs lo hi) hz,_,(r.drop (HT.sIx xs.length 0 lo)).take (HT.sIx xs.length xs.length hi-HT.sIx xs.length 0 lo),kj.new _ _⟩
def Ag (K:PySem.W.Frag):R2:=fun x y H Q=>∃a b xs ys,x=.ref a∧y=.ref b∧SqT K H a xs∧SqT K H b ys∧xs≠[]∧xs.length+ys.length≤sizeLine∧
 (ys=[]→Q (.ref a) H)∧(ys≠[]→∀p,H p=none→Q (.ref p) (upd H p (.tup (xs++ys))))
theorem Vals.iQ {xs:List V} {us:List Value} (r:Vals xs us):us=[]↔xs=[]:=by
 cases r with
 | nil=>simp
 | cons _ _=>simp
theorem wd:OpR X (binaryOp .Add) (Ag X.K):=by
 intro pins s σ H x y v u Q I rx ry h
 obtain ⟨a,b,xs,ys,rfl,rfl,ha,hb,hx,hz,q1,q2⟩:=h
 cases rx
 cases ry
 obtain ⟨its,r1,p1,_⟩:=I.tuple ha
 obtain ⟨its2,r2,p2,_⟩:=I.tuple hb
 refine HT.wM p1 p2 (fun z=>hx (r1.iQ.mp z)) (fun z=>⟨.ref a,H,I,rfl,q1 (r2.iQ.mp z)⟩) (fun z=>?_) (by rw [←r1.length,←r2.length];exact hz)
 refine ⟨.ref s.heap.objs.size,_,I.laid (t':=s.toks) (o:=.tup (xs++ys)) (fun b ob q=>Heap.get?_push_of_some _ q) (Nat.le_refl _) ?_,rfl,q2 (fun w=>z (r2.iQ.mpr w)) _ (I.hok.fresh (Nat.le_refl _))⟩
 exact ⟨by rw [List.length_append];exact hz,_,r1.append r2,kj.new _ _⟩
end
end L2
namespace L2
open PySem PySem.Spec PyProof.Rows
def ixN (n:Nat) (i:Int):Option Nat:=if 0≤i then (if i < n then some i.toNat else none) else if -(n:Int)≤i then some (i+n).toNat else none
def atI {α:Type} (xs:List α) (i:Int):Option α:=(ixN xs.length i).bind fun j=>xs[j]?
theorem qi {n:Nat} {i:Int} {j:Nat} (h:ixN n i=some j):seqIndex? i n=some j∧j < n∧-(n:Int)≤i∧i < n:=by
 unfold ixN at h
 by_cases h0:0≤i
 ·rw [if_pos h0] at h
  by_cases h1:i < n
  ·rw [if_pos h1] at h
   have e:i.toNat=j:=Option.some.inj h
   exact ⟨by rw [seqIndex_of h0 h1,e],by omega,by omega,h1⟩
  ·rw [if_neg h1] at h;cases h
 ·rw [if_neg h0] at h
  by_cases h1:-(n:Int)≤i
  ·rw [if_pos h1] at h
   have e:(i+n).toNat=j:=Option.some.inj h
   exact ⟨by rw [seqIndex_neg (by omega) h1,e],by omega,h1,by omega⟩
  ·rw [if_neg h1] at h;cases h
theorem iS {α:Type} {xs:List α} {i:Int} {v:α} (h:atI xs i=some v):∃j,seqIndex? i xs.length=some j∧xs[j]?=some v∧j < xs.length∧-(xs.length:Int)≤i∧i < xs.length:=by
 unfold atI at h
 cases e:ixN xs.length i with
 | none=>rw [e] at h;cases h
 | some j=>
  rw [e] at h
  obtain ⟨h1,h2,h3,h4⟩:=qi e
  exact ⟨j,h1,h,h2,h3,h4⟩
theorem iR {α:Type} {xs:List α} {j:Nat} {v:α} (h:xs[j]?=some v):atI xs (j:Int)=some v:=by
 have hj:j < xs.length:=(List.getElem?_eq_some_iff.mp h).1
 have e:ixN xs.length (j:Int)=some j:=by
  unfold ixN
  rw [if_pos (by omega),if_pos (by omega)];simp
 unfold atI;rw [e];exact h
theorem jR {α:Type} (xs:List α) (v:α):atI (xs++[v]) (-1)=some v:=by
 have hl:(xs++[v]).length=xs.length+1:=by simp
 have e:ixN (xs++[v]).length (-1)=some xs.length:=by
  unfold ixN
  rw [hl,if_neg (by decide),if_pos (by omega)]
  congr 1
  omega
 unfold atI
 rw [e]
 show (xs++[v])[xs.length]?=some v
 simp
def mM (b:Expr):Prop:=∀o i,subscripted b false o i=operate [o,i] (getItem o i)
def IxR (X:Cx) (r:R2):Prop:=
 ∀(value slice:Expr) (pins:List (Addr×Obj)) (s:Shared) (σ:St) (H:Hp) (x y:V) (v u:Value) (Q:VK),Inv X pins σ H s→RelV x v→RelV y u→r x y H Q→
  subscripted slice false v u=operate [v,u] (getItem v u)→wpAny (model X.prog X.w) X.A (subscriptTail value slice v u) (EP X pins σ Q) X.xe s
def MtR (X:Cx) (id:String) (r:V→List V→Hp→VK→Prop):Prop:=
 ∀(pins:List (Addr×Obj)) (s:Shared) (σ:St) (H:Hp) (x:V) (xs:List V) (v:Value) (us:List Value) (Q:VK),Inv X pins σ H s→RelV x v→Vals xs us→r x xs H Q→
  wpAny (model X.prog X.w) X.A (call (.builtin id) (v::us)) (EP X pins σ Q) X.xe s
section
variable {X:Cx} {a b:Expr} {ta tb:TE} {pos:Pos}
theorem Am {r:R2} (hr:IxR X r) (ha:PE X a ta) (hb:PE X b tb) (hs:mM b):PE X (.Subscript a b pos) (tOp r ta tb):=by
 intro pins s σ H Q I h
 exact Subscript_ (zi ha hb I h fun v u s2 x y H2 I2 rx ry q=>hr a b pins s2 σ H2 x y v u Q I2 rx ry q (hs _ _))
def BE (K:PySem.W.Frag):R2:=fun x y H Q=>∃p xs i v,x=.ref p∧y=.int i∧SqL K H p xs∧atI xs i=some v∧Q v H
def BC (K:PySem.W.Frag):R2:=fun x y H Q=>∃p xs i v,x=.ref p∧y=.int i∧SqT K H p xs∧atI xs i=some v∧Q v H
def BD:R2:=fun x y H Q=>∃z i c,x=.str z∧y=.int i∧z.length≤sizeLine∧atI z.cps.toList i=some c∧Q (.str ⟨#[c]⟩) H
theorem wz:IxR X (BE X.K):=by
 intro value slice pins s σ H x y v u Q I rx ry h hs
 obtain ⟨p,xs,i,z,rfl,rfl,hq,he,q⟩:=h
 cases rx
 obtain ⟨t,rfl⟩:=ry
 obtain ⟨its,r,pl,hz⟩:=I.list hq
 obtain ⟨j,h1,h2,h3,h4,h5⟩:=iS he
 obtain ⟨w,ew,rw'⟩:=r.get h2
 have hl:=r.length
 have hn:=fQ
 have fin:EP X pins σ Q w s:=⟨z,H,I,rw',q⟩
 by_cases h0:0≤i
 ·have hj:i.toNat=j:=by
   rw [seqIndex_of h0 h5] at h1
   exact Option.some.inj h1
  exact item_listR pl.isList h0 (by omega) (by rw [hj];simpa using ew) fin hs
 ·have hj:(i+(its.toArray.size:Int)).toNat=j:=by
   rw [seqIndex_neg (by omega) h4] at h1
   rw [List.size_toArray,←hl]
   exact Option.some.inj h1
  exact subscriptTail_builtinR (x:=w) pl.isList.typeIs slot_list_getitem.lookup
   (wpAny_getItem_list_neg (Q:=fun r s'=>r=w∧EP X pins σ Q r s') pl.isList (by omega) (by rw [List.size_toArray] <;> omega) (by omega) (by rw [hj];simpa using ew) ⟨rfl,fin⟩) hs
theorem yR:IxR X (BC X.K):=by
 intro value slice pins s σ H x y v u Q I rx ry h hs
 obtain ⟨p,xs,i,z,rfl,rfl,hq,he,q⟩:=h
 cases rx
 obtain ⟨t,rfl⟩:=ry
 obtain ⟨its,r,pl,hz⟩:=I.tuple hq
 obtain ⟨j,h1,h2,h3,h4,h5⟩:=iS he
 obtain ⟨w,ew,rw'⟩:=r.get h2
 have hl:=r.length
 have hn:=fQ
 have fin:EP X pins σ Q w s:=⟨z,H,I,rw',q⟩
 exact subscriptTail_builtinR (x:=w) pl.typeIs slot_tuple_getitem.lookup
  (getItem_tuple (j:=j) (Q:=fun r s'=>r=w∧EP X pins σ Q r s') pl (by omega) (by omega) (by rw [List.size_toArray,←hl];exact h1) (by simpa using ew) ⟨rfl,fin⟩) hs
theorem yS:IxR X BD:=by
 intro value slice pins s σ H x y v u Q I rx ry h hs
 obtain ⟨z,i,c,rfl,rfl,hz,he,q⟩:=h
 obtain ⟨t,rfl⟩:=rx
 obtain ⟨t',rfl⟩:=ry
 obtain ⟨j,h1,h2,h3,h4,h5⟩:=iS he
 have hl:z.cps.toList.length=z.length:=by simp [Str.length]
 rw [hl] at h1 h4 h5
 have hn:=fQ
 exact tail_any (typeIs_str s z t) slot_str_getitem.lookup (getItem_str (c:=c) (by
  have e1:decide (i < -(2^63:Int))=false:=decide_eq_false (by omega)
  have e2:decide (i≥2^63)=false:=decide_eq_false (by omega)
  rw [e1,e2,Bool.or_false]) (by rw [h1];simpa using h2) ⟨.str ⟨#[c]⟩,H,I.tok _,⟨_,rfl⟩,q⟩) hs
theorem o9 (its:List Value) (n j:Nat) (u:Value):Obj.mapSeq (·.setIfInBounds j u) {cls:=.type "list",data:=.seq its.toArray n}={cls:=.type "list",data:=.seq (its.set j u).toArray n}:=by
 simp [Obj.mapSeq]
theorem Inv.lst {pins:List (Addr×Obj)} {σ:St} {H:Hp} {s:Shared} {p:Addr} {xs:List V} (I:Inv X pins σ H s) (h:H p=some (.lst xs)):
  ∃(its:List Value) (n:Nat),Vals xs its∧s.heap.get? p=some {cls:=.type "list",data:=.seq its.toArray n}∧xs.length≤sizeLine:=by
 obtain ⟨z,its,n,r,e⟩:=I.hok p _ h
 exact ⟨its,n,r,e,z⟩
theorem Inv.yM {pins:List (Addr×Obj)} {σ:St} {H:Hp} {s:Shared} {p:Addr} {xs ys:List V} {its its':List Value} {n n':Nat} {f:Obj→Obj} (I:Inv X pins σ H s) (h:H p=some (.lst xs))
  (ho:s.heap.get? p=some {cls:=.type "list",data:=.seq its.toArray n}) (hf:f {cls:=.type "list",data:=.seq its.toArray n}={cls:=.type "list",data:=.seq its'.toArray n'}) (r:Vals ys its') (hz:ys.length≤sizeLine) (t:Nat):
  Inv X pins σ (upd H p (.lst ys)) {s with heap:=s.heap.update p f,toks:=t}:=by
 have e:(s.heap.update p f).get? p=some {cls:=.type "list",data:=.seq its'.toArray n'}:=by
  rw [Heap.get?_update_self f ho (by rw [hf] <;> rfl),hf]
 refine I.write (x:=p) (e:=p) (by rw [h];trivial) (.inl rfl) (fun b u hb q=>(Heap.get?_update_other _ _ (Ne.symm hb)).trans q) ⟨_,e⟩ ?_
 exact ⟨hz,its',n',r,e⟩
def Ae:V→V→V→Hp→(Hp→Prop)→Prop:=fun o i v H Q=>∃p xs k j,o=.ref p∧i=.int k∧H p=some (.lst xs)∧ixN xs.length k=some j∧Q (upd H p (.lst (xs.set j v)))
theorem set_list:zl X Ae:=by
 intro pins s σ H o i v ov iv u Q I ro ri rv h
 obtain ⟨p,xs,k,j,rfl,rfl,hp,hj,q⟩:=h
 cases ro
 obtain ⟨t,rfl⟩:=ri
 obtain ⟨its,n,r,ho,hz⟩:=I.lst hp
 obtain ⟨h1,h2,h3,h4⟩:=qi hj
 have hl:=r.length
 have hn:=fQ
 have I':Inv X pins σ (upd H p (.lst (xs.set j v))) {s with heap:=s.heap.update p (Obj.mapSeq (·.setIfInBounds j u))}:=
  I.yM hp ho (o9 its n j u) (r.set rv j) (by rw [List.length_set];exact hz) s.toks
 by_cases h0:0≤k
 ·have hk:k.toNat=j:=by
   rw [seqIndex_of h0 h4] at h1
   exact Option.some.inj h1
  exact PySem.W.ki_setAt ho h0 (by omega) (by rw [List.size_toArray,←hl];exact h4) (by rw [hk];exact ⟨_,I',q⟩)
 ·have hk:(k+(its.toArray.size:Int)).toNat=j:=by
   rw [seqIndex_neg (by omega) h3] at h1
   rw [List.size_toArray,←hl]
   exact Option.some.inj h1
  exact PySem.W.ki_setBack ho (by omega) (by rw [List.size_toArray,←hl];exact h3) (by omega) (by rw [hk];exact ⟨_,I',q⟩)
theorem lM (lo hi:Option Int) (n:Nat):(sliceBounds lo hi none n).1=((HT.sIx n 0 lo:Nat):Int)∧(sliceBounds lo hi none n).2.1=((HT.sIx n n hi:Nat):Int)∧(sliceBounds lo hi none n).2.2=1:=by
 refine ⟨?_,?_,rfl⟩
 ·cases lo with
  | none=>simp [sliceBounds,HT.sIx]
  | some i=>
   simp only [sliceBounds,HT.sIx,Option.getD_none,show (1:Int) > 0 by decide,if_true]
   by_cases h:i < 0
   ·simp only [h,if_true] <;> omega
   ·simp only [h,if_false] <;> omega
 ·cases hi with
  | none=>simp [sliceBounds,HT.sIx]
  | some i=>
   simp only [sliceBounds,HT.sIx,Option.getD_none,show (1:Int) > 0 by decide,if_true]
   by_cases h:i < 0
   ·simp only [h,if_true] <;> omega
   ·simp only [h,if_false] <;> omega
theorem jY (its:List Value) (lo hi:Option Int):slicePick its.toArray lo hi none=((its.drop (HT.sIx its.length 0 lo)).take (HT.sIx its.length its.length hi-HT.sIx its.length 0 lo)).toArray:=by
 obtain ⟨h1,h2,h3⟩:=lM lo hi its.toArray.size
 unfold slicePick
 rw [h1,h2,h3]
 simp only [sliceRange_one,pick_run,List.size_toArray] <;> rfl
def Bz (K:PySem.W.Frag):V→Option Int→Option Int→Hp→VK→Prop:=fun x lo hi H Q=>∃a xs,x=.ref a∧SqL K H a xs∧∀p,H p=none→Q (.ref p) (upd H p (.lst (jI xs lo hi)))
theorem vc:SlR X (Bz X.K):=by
 intro pins s σ H x v vl vu lo hi sl Q I rx hs pl pu h
 obtain ⟨a,xs,rfl,hx,q⟩:=h
 cases rx
 obtain ⟨its,r,ht,hz⟩:=I.list hx
 have hlen:=r.length
 refine ⟨"list",_,slot_list_getitem.lookup,ht.isList.typeIs,?_⟩
 refine wpAny_getItem_list_slice ht.isList hs pl pu .none (by simp) ?_ (by rw [List.size_toArray] <;> omega)
 rw [jY,←hlen]
 refine ⟨.ref s.heap.objs.size,_,I.laid (t':=s.toks) (o:=.lst (jI xs lo hi)) (fun b ob q=>Heap.get?_push_of_some _ q) (Nat.le_refl _) ?_,rfl,q _ (I.hok.fresh (Nat.le_refl _))⟩
 exact ⟨Nat.le_trans (iC xs lo hi) hz,_,0,(r.drop (HT.sIx xs.length 0 lo)).take (HT.sIx xs.length xs.length hi-HT.sIx xs.length 0 lo),Heap.get?_push_size _ rfl⟩
theorem mI:cJ X (.builtin "len") (fun xs H Q=>∃p ys,xs=[.ref p]∧(SqL X.K H p ys∨SqT X.K H p ys)∧Q (.int ys.length) H):=by
 intro pins s σ H xs us Q I r h
 obtain ⟨p,ys,rfl,hq,q⟩:=h
 obtain ⟨u,rfl,rx⟩:=vals1 r
 cases rx
 have hn:=fQ
 rcases hq with hq | hq
 ·obtain ⟨its,r',pl,hz⟩:=I.list hq
  have hlen:=r'.length
  exact Calls.call_len_list pl.isList (by simp only [List.size_toArray] <;> omega) ⟨.int ys.length,H,I.tok _,⟨s.toks+1,by rw [List.size_toArray,hlen]⟩,q⟩
 ·obtain ⟨its,r',pl,hz⟩:=I.tuple hq
  have hlen:=r'.length
  exact len_tuple pl (by simp only [List.size_toArray] <;> omega) ⟨.int ys.length,H,I.tok _,⟨s.toks+1,by rw [List.size_toArray,hlen]⟩,q⟩
theorem mH:cJ X (.builtin "len") (fun xs H Q=>∃z,xs=[.str z]∧z.length≤sizeLine∧Q (.int z.length) H):=by
 intro pins s σ H xs us Q I r h
 obtain ⟨z,rfl,hz,q⟩:=h
 obtain ⟨u,rfl,t,rfl⟩:=vals1 r
 have hn:=fQ
 exact len_str (by omega) ⟨.int z.length,H,I.tok _,⟨_,rfl⟩,q⟩
theorem mG:cJ X (.type "list") (fun xs H Q=>∃p ys,xs=[.ref p]∧(SqL X.K H p ys∨SqT X.K H p ys)∧∀l,H l=none→Q (.ref l) (upd H l (.lst ys))):=by
 intro pins s σ H xs us Q I r h
 obtain ⟨p,ys,rfl,hq,q⟩:=h
 obtain ⟨u,rfl,rx⟩:=vals1 r
 cases rx
 have fin:∀(its:List Value),Vals ys its→ys.length≤sizeLine→∀(h':Heap) (c':Nat),(∀b o',s.heap.get? b=some o'→h'.get? b=some o')→
   h'.get? s.heap.objs.size=some {cls:=.type "list",dict:=none,data:=.seq its.toArray c',slots:=#[]}→EP X pins σ Q (.ref s.heap.objs.size) {s with heap:=h'}:=fun its r' hz h' c' kp e=>
  ⟨.ref s.heap.objs.size,_,I.laid (t':=s.toks) kp (Nat.le_refl _) (show a8 X.prog X.w _ h' _ (.lst ys) from ⟨hz,its,c',r',e⟩),rfl,q _ (I.hok.fresh (Nat.le_refl _))⟩
 rcases hq with hq | hq
 ·obtain ⟨its,r',pl,hz⟩:=I.list hq
  have hlen:=r'.length
  obtain ⟨o,ho,hc,n,hd⟩:=pl.isList
  exact call_list_seq p (.inl rfl) ho hc hd (fun h' c' kp e=>fin its r' hz h' c' kp e) (by simp only [List.size_toArray] <;> omega)
 ·obtain ⟨its,r',pl,hz⟩:=I.tuple hq
  have hlen:=r'.length
  obtain ⟨o,ho,hc,n,hd⟩:=pl
  exact call_list_seq p (.inr rfl) ho hc hd (fun h' c' kp e=>fin its r' hz h' c' kp e) (by simp only [List.size_toArray] <;> omega)
theorem kg:cJ X (.type "tuple") (fun xs H Q=>∃p ys,xs=[.ref p]∧((SqL X.K H p ys∧∀l,H l=none→Q (.ref l) (upd H l (.tup ys)))∨(SqT X.K H p ys∧Q (.ref p) H))):=by
 intro pins s σ H xs us Q I r h
 obtain ⟨p,ys,rfl,h⟩:=h
 obtain ⟨u,rfl,rx⟩:=vals1 r
 cases rx
 rcases h with ⟨hq,q⟩ | ⟨hq,q⟩
 ·obtain ⟨its,r',pl,hz⟩:=I.list hq
  have hlen:=r'.length
  refine call_tuple_list pl.isList (fun h' kp=>?_) (by simp only [List.size_toArray] <;> omega)
  have I1:Inv X pins σ H {s with heap:=h'}:=I.kept (t':=s.toks) kp
  have I2:Inv X pins σ (upd H h'.objs.size (.tup ys)) {s with heap:=h'.push {cls:=.type "tuple",data:=.seq its.toArray}}:=
   I1.laid (t':=s.toks) (fun b o e=>Heap.get?_push_of_some _ e) (Nat.le_refl _) (show a8 X.prog X.w _ _ _ (.tup ys) from ⟨hz,its,r',kj.new _ _⟩)
  exact ⟨.ref h'.objs.size,_,I2,rfl,q _ (I1.hok.fresh (Nat.le_refl _))⟩
 ·obtain ⟨its,r',pl,hz⟩:=I.tuple hq
  exact call_tuple_same pl ⟨.ref p,H,I,rfl,q⟩
def tyV (K:PySem.W.Frag) (T:String) (x:V) (H:Hp):Prop:=match x with
 | .str _=>T="str"
 | .int _=>T="int"
 | .ref p=>(T="list"∧∃xs,SqL K H p xs)∨(T="tuple"∧∃o,K.lookup p=some o∧o.cls=.type "tuple"∧o.dict=none)∨
   (T="dict"∧((∃kvs,H p=some (.dK kvs))∨∃kvs,H p=some (.dT kvs)))∨(T="set"∧∃S n,H p=some (.set S n))
 | _=>False
theorem xt {pins:List (Addr×Obj)} {σ:St} {H:Hp} {s:Shared} {T:String} {x:V} {v:Value} (I:Inv X pins σ H s) (r:RelV x v) (ty:tyV X.K T x H):
  s.TypeIs v T∧∀a,v=.ref a→∃ob,s.heap.get? a=some ob∧ob.dict=none:=by
 cases x with
 | str z=>
  obtain ⟨t,rfl⟩:=r
  cases (show T="str" from ty)
  exact ⟨typeIs_str s z t,fun _ e=>nomatch e⟩
 | int i=>
  obtain ⟨t,rfl⟩:=r
  cases (show T="int" from ty)
  exact ⟨typeIs_int s i t,fun _ e=>nomatch e⟩
 | ref p=>
  cases r
  rcases ty with ⟨rfl,xs,hq⟩ | ⟨rfl,o,hk,hc,hd⟩ | ⟨rfl,hk⟩ | ⟨rfl,S,n,hk⟩
  ·obtain ⟨its,_,pl,_⟩:=I.list hq
   refine ⟨pl.isList.typeIs,fun a e=>?_⟩
   cases e
   obtain ⟨o,n,e,c,hd,_⟩:=pl
   exact ⟨o,e,hd⟩
  ·refine ⟨⟨o,I.kIn p o hk,hc⟩,fun a e=>?_⟩
   cases e
   exact ⟨o,I.kIn _ o hk,hd⟩
  ·have z:∃o,s.heap.get? p=some o∧o.ExactDict:=by
    rcases hk with ⟨kvs,hk⟩ | ⟨kvs,hk⟩
    ·obtain ⟨_,_,_,_,o,_,_,e,ex,_⟩:=I.hok p _ hk
     exact ⟨o,e,ex⟩
    ·obtain ⟨_,_,_,_,o,_,_,e,ex,_⟩:=I.hok p _ hk
     exact ⟨o,e,ex⟩
   obtain ⟨o,e,ex⟩:=z
   refine ⟨⟨o,e,ex.1⟩,fun a e2=>?_⟩
   cases e2
   exact ⟨o,e,ex.2.1⟩
  ·obtain ⟨o,_,_,_,e,ex,_⟩:=I.hok p _ hk
   refine ⟨⟨o,e,ex.1⟩,fun a e2=>?_⟩
   cases e2
   exact ⟨o,e,ex.2.1⟩
 | _=>exact False.elim ty
def tBM (K:PySem.W.Frag) (T:String) (r:V→List V→Hp→VK→Prop) (to:TE) (t:TA):TE:=fun σ H Q=>to σ H fun x H1=>tyV K T x H1∧t σ H1 fun xs H2=>r x xs H2 Q
variable {o e:Expr} {es:List Expr} {to:TE} {t:TA} {name:Str} {apos cpos:Pos} {T id:String} {r:V→List V→Hp→VK→Prop}
theorem An (pa:PlainAttrs T) (slot:Slot T name id) (hty:typeOf (.builtin id)=pure (.type "method_descriptor")) (hm:MtR X id r) (ho:PE X o to) (ha:PA X (e::es) t)
  (hbase:attributeBase o name X.env (eval o X.env)=eval o X.env:=by rfl)
  (hfew:((backTo cpos (starEach (e::es) X.env)).all (fun x=>!x.1)&&(backToKw cpos (keywordEach [] X.env)).all (fun x=>x.1.isSome)
   &&decide ((e::es).length+([]:List Keyword).length+(if ([]:List Keyword).isEmpty then 0 else 1) < 30))=true:=by rfl)
  (hline:(apos.endLine==cpos.line)=true:=by rfl) (hs:starEach (e::es) X.env=(false,eval e X.env)::starEach es X.env:=by rfl) (hplain:(backTo cpos (starEach es X.env)).any (·.1)=false:=by rfl):
  PE X (.Call (.Attribute o name apos) (e::es) [] cpos) (tBM X.K T r to t):=by
 intro pins s σ H Q I h
 refine wpAny_Call_method_late hbase hfew hline rfl (thn (ho pins s σ H _ I h) fun v s1 ⟨x,H1,I1,r1,ty,q1⟩=>?_)
 obtain ⟨h1,h2⟩:=xt I1 r1 ty
 refine ⟨T,id,pa,slot,hty,h1,h2,?_⟩
 have hA:=ha cpos pins s1 σ H1 _ I1 q1
 rw [hs] at hA ⊢
 refine Calls.callWith_builtin (by show (false||(backTo cpos (starEach es X.env)).any (·.1))=false;rw [hplain] <;> rfl) (Calls.evalArgs_plain ?_)
 exact thn hA fun us s2 ⟨vs,H2,I2,r2,q2⟩=>hm pins s2 σ H2 x vs v us Q I2 r1 r2 q2
end
end L2
namespace L2
open PySem PySem.Spec PyProof.Rows
def MtM (X:Cx) (id:String) (r:V→List V→Hp→VK→Prop):Prop:=
 ∀(pins:List (Addr×Obj)) (s:Shared) (σ:St) (H:Hp) (x:V) (xs:List V) (v:Value) (us:List Value) (Q:VK),Inv X pins σ H s→RelV x v→Vals xs us→r x xs H Q→
  wpAny (model X.prog X.w) X.A (call (.builtin id) (v::us)) (EP X pins σ Q) X.xe s
theorem Vals.one:∀{x:V} {us:List Value},Vals [x] us→∃u,us=[u]∧RelV x u
 | _,_,.cons r .nil=>⟨_,rfl,r⟩
theorem Vals.two:∀{x y:V} {us:List Value},Vals [x,y] us→∃u v,us=[u,v]∧RelV x u∧RelV y v
 | _,_,_,.cons r (.cons q .nil)=>⟨_,_,rfl,r,q⟩
section
variable {X:Cx} {pins:List (Addr×Obj)} {σ:St} {H:Hp} {s:Shared} {l b:Addr} {xs ys zs:List V}
theorem Inv.AE {its its':List Value} {n:Nat} {f:Array Value→Array Value} {t':Nat} (I:Inv X pins σ H s) (hH:H l=some (.lst xs))
  (e:s.heap.get? l=some {cls:=.type "list",data:=.seq its.toArray n}) (hf:f its.toArray=its'.toArray) (hv:Vals ys its') (hz:ys.length≤sizeLine):
  Inv X pins σ (upd H l (.lst ys)) {s with heap:=s.heap.update l (Obj.mapSeq f),toks:=t'}:=by
 have q:=PySem.IsL.update e f
 rw [hf] at q
 refine I.write (x:=l) (e:=l) (by rw [hH];exact trivial) (.inl rfl) (fun b' u hb hu=>(Heap.get?_update_other s.heap (Obj.mapSeq f) (Ne.symm hb)).trans hu) ⟨_,q⟩ ?_
 exact ⟨hz,its',_,hv,q⟩
theorem Inv.AF {its:List Value} {t':Nat} (I:Inv X pins σ H s) (hv:Vals ys its) (hz:ys.length≤sizeLine):
  Inv X pins σ (upd H s.heap.objs.size (.lst ys)) {s with heap:=s.heap.push {cls:=.type "list",data:=.seq its.toArray},toks:=t'}:=
 I.laid (fun _ _ q=>Heap.get?_push_of_some _ q) (Nat.le_refl _) ⟨hz,its,0,hv,Heap.get?_push_size _ rfl⟩
theorem Inv.fresh (I:Inv X pins σ H s):H s.heap.objs.size=none:=I.hok.fresh (Nat.le_refl _)
theorem Inv.t5 (I:Inv X pins σ H s) (hH:H l=some (.lst xs)):xs.length≤sizeLine∧∃(its:List Value) (n:Nat),Vals xs its∧xs.length=its.length∧s.heap.get? l=some {cls:=.type "list",data:=.seq its.toArray n}:=by
 obtain ⟨z,its,n,r,e⟩:=I.hok l _ hH
 exact ⟨z,its,n,r,r.length,e⟩
theorem tZ {n:Nat} (h:n≤sizeLine):Builtin.List.listTooLong n=false:=by
 unfold Builtin.List.listTooLong
 exact decide_eq_false (by omega)
end
section
variable {X:Cx}
def vF:V→List V→Hp→VK→Prop:=fun x vs H Q=>∃l xs y,x=.ref l∧vs=[y]∧H l=some (.lst xs)∧xs.length < sizeLine∧Q .non (upd H l (.lst (xs++[y])))
theorem kQ:MtM X "list.append" vF:=by
 intro pins s σ H x vs v us Q I rx rv h
 obtain ⟨l,xs,y,rfl,rfl,hH,hz,q⟩:=h
 cases rx
 obtain ⟨u,rfl,ru⟩:=rv.one
 obtain ⟨z,its,n,r,hl,e⟩:=I.t5 hH
 refine call_meets F.slot_list_append ⟨_,e,rfl⟩ F.entry_list_append (F.args_list_append_2 _ _) (PySem.list_append l its.toArray n u (by rw [List.size_toArray];omega)) ⟨e,?_⟩
 refine ⟨.non,_,I.AE (its':=its++[u]) hH e (by simp) (r.append (.cons ru .nil)) ?_,rfl,q⟩
 rw [List.length_append,List.length_singleton]
 omega
def vE:V→List V→Hp→VK→Prop:=fun x vs H Q=>∃l b xs zs,x=.ref l∧vs=[.ref b]∧H l=some (.lst xs)∧H b=some (.lst zs)∧xs.length+zs.length≤sizeLine∧Q .non (upd H l (.lst (xs++zs)))
theorem rq:MtM X "list.extend" vE:=by
 intro pins s σ H x vs v us Q I rx rv h
 obtain ⟨l,b,xs,zs,rfl,rfl,hH,hB,hz,q⟩:=h
 cases rx
 obtain ⟨u,rfl,ru⟩:=rv.one
 cases ru
 obtain ⟨z,its,n,r,hl,e⟩:=I.t5 hH
 obtain ⟨z2,its2,n2,r2,hl2,e2⟩:=I.t5 hB
 have hsz:its.toArray.size+its2.toArray.size≤sizeLine:=by rw [List.size_toArray,List.size_toArray];omega
 have hlong:¬(!its.toArray.isEmpty&&Builtin.List.listTooLong (its.toArray.size+its2.toArray.size))=true:=by
  rw [tZ hsz,Bool.and_false]
  exact Bool.false_ne_true
 refine call_meets F.slot_list_extend ⟨_,e,rfl⟩ F.entry_list_extend (F.args_list_extend_2 _ _)
  (AutoSeq1.list_extend_list_list_0 l its.toArray n b its2.toArray n2 hlong (by rw [List.size_toArray];omega) (by omega)) ⟨e,e2,?_⟩
 refine ⟨.non,_,I.AE (its':=its++its2) hH e (by simp) (r.append r2) ?_,rfl,q⟩
 rw [List.length_append]
 omega
def BF:R2:=fun x y H Q=>∃l b xs zs,x=.ref l∧y=.ref b∧H l=some (.lst xs)∧H b=some (.lst zs)∧xs.length+zs.length≤sizeLine∧∀p,H p=none→Q (.ref p) (upd H p (.lst (xs++zs)))
theorem yH:OpR X (binaryOp .Add) BF:=by
 intro pins s σ H x y v u Q I rx ry h
 obtain ⟨l,b,xs,zs,rfl,rfl,hH,hB,hz,q⟩:=h
 cases rx
 cases ry
 obtain ⟨z,its,n,r,hl,e⟩:=I.t5 hH
 obtain ⟨z2,its2,n2,r2,hl2,e2⟩:=I.t5 hB
 refine PySem.P.add_list e e2 ?_ (by rw [List.size_toArray,List.size_toArray];omega)
 have ea:its.toArray++its2.toArray=(its++its2).toArray:=by simp
 rw [ea]
 exact ⟨.ref _,_,I.AF (t':=s.toks) (r.append r2) (by rw [List.length_append];omega),rfl,q _ I.fresh⟩
end
section
variable {prog:Program} {w:World} {A:Around} {E:Value→Shared→Prop} {s:Shared}
set_option maxRecDepth 100000 in
end
section
variable {X:Cx}
end
end L2
namespace L2
open PySem PySem.Spec PyProof.Rows
section
variable {κ:Type} [DecidableEq κ]
def c5 (kvs:List (κ×V)) (k:κ):Option V:=(kvs.find? fun kv=>decide (kv.1=k)).map (·.2)
def putK (kvs:List (κ×V)) (k:κ) (v:V):List (κ×V):=
 if (kvs.any fun kv=>decide (kv.1=k))=true then kvs.map (fun kv=>if kv.1=k then (kv.1,v) else kv) else kvs++[(k,v)]
theorem iW {p:κ×V} {r:List (κ×V)} {k:κ} (e:p.1=k):c5 (p::r) k=some p.2:=by simp [c5,List.find?_cons,e]
theorem eI {p:κ×V} {r:List (κ×V)} {k:κ} (e:¬p.1=k):c5 (p::r) k=c5 r k:=by simp [c5,List.find?_cons,e]
theorem mP (k:κ):∀kvs:List (κ×V),(kvs.any fun kv=>decide (kv.1=k))=(c5 kvs k).isSome
 | []=>rfl
 | p::r=>by
  rw [List.any_cons]
  by_cases e:p.1=k
  ·simp only [iW e,decide_eq_true e,Bool.true_or,Option.isSome_some]
  ·rw [eI e,decide_eq_false e,Bool.false_or];exact mP k r
theorem cV (kvs:List (κ×V)) (k:κ) (v:V):(putK kvs k v).length≤kvs.length+1:=by
 unfold putK
 split
 ·rw [List.length_map];omega
 ·rw [List.length_append,List.length_cons,List.length_nil];omega
theorem ik.dB {o:Option V} {u:Option Value} (r:ik o u):o.isSome=u.isSome:=by
 cases o with
 | none=>cases u with
  | none=>rfl
  | some _=>exact (show False from r).elim
 | some _=>cases u with
  | none=>exact (show False from r).elim
  | some _=>rfl
theorem ik.getD {o:Option V} {u:Option Value} {d:V} {d':Value} (r:ik o u) (rd:RelV d d'):RelV (o.getD d) (u.getD d'):=by
 cases o with
 | none=>cases u with
  | none=>exact rd
  | some _=>exact (show False from r).elim
 | some _=>cases u with
  | none=>exact (show False from r).elim
  | some _=>exact r
theorem KV.val {kvs:List (κ×V)} {vs:List (κ×Value)} (r:KV kvs vs) (k:κ):ik (c5 kvs k) (valueAt vs k):=by
 unfold KV at r
 induction r with
 | nil=>exact True.intro
 | @cons p q ps qs h t ih=>
  obtain ⟨h1,h2⟩:=h
  by_cases e:p.1=k
  ·have e':q.1=k:=h1.symm.trans e
   have b:valueAt (q::qs) k=some q.2:=by simp [valueAt,List.find?_cons,e']
   rw [iW e,b];exact h2
  ·have e':¬q.1=k:=fun z=>e (h1.trans z)
   have b:valueAt (q::qs) k=valueAt qs k:=by simp [valueAt,List.find?_cons,e']
   rw [eI e,b];exact ih
theorem KV.any {kvs:List (κ×V)} {vs:List (κ×Value)} (r:KV kvs vs) (k:κ):(kvs.any fun kv=>decide (kv.1=k))=vs.any fun kv=>decide (kv.1=k):=by
 unfold KV at r
 induction r with
 | nil=>rfl
 | cons h t ih=>rw [List.any_cons,List.any_cons,ih,h.1]
theorem KV.xT {kvs:List (κ×V)} {vs:List (κ×Value)} (r:KV kvs vs) (k:κ) {y:V} {u:Value} (ry:RelV y u):
  KV (kvs.map fun kv=>if kv.1=k then (kv.1,y) else kv) (vs.map fun kv=>if kv.1=k then (kv.1,u) else kv):=by
 unfold KV at r ⊢
 induction r with
 | nil=>exact .nil
 | @cons p q ps qs h t ih=>
  rw [List.map_cons,List.map_cons]
  refine .cons ?_ ih
  obtain ⟨h1,h2⟩:=h
  by_cases e:p.1=k
  ·rw [if_pos e,if_pos (h1.symm.trans e)];exact ⟨h1,ry⟩
  ·rw [if_neg e,if_neg (fun z=>e (h1.trans z))];exact ⟨h1,h2⟩
theorem KV.put {kvs:List (κ×V)} {vs:List (κ×Value)} (r:KV kvs vs) (k:κ) {y:V} {u:Value} (ry:RelV y u):KV (putK kvs k y) (stored vs k u):=by
 unfold putK stored
 rw [r.any k]
 by_cases e:(vs.any fun kv=>decide (kv.1=k))=true
 ·rw [if_pos e,if_pos e];exact r.xT k ry
 ·rw [if_neg e,if_neg e];exact Paired.snoc r ⟨rfl,ry⟩
theorem KV.keys {kvs:List (κ×V)} {vs:List (κ×Value)} (r:KV kvs vs):kvs.map (·.1)=vs.map (·.1):=by
 unfold KV at r
 induction r with
 | nil=>rfl
 | cons h t ih=>rw [List.map_cons,List.map_cons,ih,h.1]
theorem KV.length {kvs:List (κ×V)} {vs:List (κ×Value)} (r:KV kvs vs):kvs.length=vs.length:=Paired.length r
end
theorem cX {P:Program} {w:World} {k:Key} {u:Value} (r:RelV (kV k) u):(au P w).is k u=true:=by
 cases k with
 | inl i=>obtain ⟨t,e⟩:=(show ∃t,u=Value.int i t from r);subst e;exact nP P w i t
 | inr x=>obtain ⟨t,e⟩:=(show ∃t,u=Value.str x t from r);subst e;exact nO P w x t
theorem kX {P:Program} {w:World}:∀{ks:List Key} {us:List Value},Vals (ks.map kV) us→ItemsAre (au P w) ks us
 | [],_,r=>by rw [List.map_nil] at r;cases r;exact .nil
 | k::ks,_,r=>by
  rw [List.map_cons] at r
  cases r with
  | cons h t=>exact .cons (cX h) (kX t)
abbrev KT (H:Hp):List (List Key×V)→List (List Key×Addr×Value)→Prop:=Paired fun p q=>p.1=q.1∧H q.2.1=some (.tup (p.1.map kV))∧RelV p.2 q.2.2
theorem KT.val {H:Hp} {kvs:List (List Key×V)} {xs:List (List Key×Addr×Value)} (r:KT H kvs xs) (k:List Key):ik (c5 kvs k) ((atKey xs k).map (·.2)):=by
 induction r with
 | nil=>exact True.intro
 | @cons p q ps qs h t ih=>
  obtain ⟨h1,_,h2⟩:=h
  by_cases e:p.1=k
  ·have e':q.1=k:=h1.symm.trans e
   have b:atKey (q::qs) k=some q.2:=by simp [atKey,List.find?_cons,e']
   rw [iW e,b];exact h2
  ·have e':¬q.1=k:=fun z=>e (h1.trans z)
   have b:atKey (q::qs) k=atKey qs k:=by simp [atKey,List.find?_cons,e']
   rw [eI e,b];exact ih
theorem KT.xT {H:Hp} {kvs:List (List Key×V)} {xs:List (List Key×Addr×Value)} (r:KT H kvs xs) (k:List Key) {y:V} {u:Value} (ry:RelV y u):
  KT H (kvs.map fun kv=>if kv.1=k then (kv.1,y) else kv) (xs.map (putAt k u)):=by
 induction r with
 | nil=>exact .nil
 | @cons p q ps qs h t ih=>
  rw [List.map_cons,List.map_cons]
  refine .cons ?_ ih
  obtain ⟨h1,h2,h3⟩:=h
  unfold putAt
  by_cases e:p.1=k
  ·rw [if_pos e,if_pos (h1.symm.trans e)];exact ⟨h1,h2,ry⟩
  ·rw [if_neg e,if_neg (fun z=>e (h1.trans z))];exact ⟨h1,h2,h3⟩
theorem KT.put {H:Hp} {kvs:List (List Key×V)} {xs:List (List Key×Addr×Value)} (r:KT H kvs xs) (k:List Key) {b:Addr} {y:V} {u:Value} (hb:H b=some (.tup (k.map kV))) (ry:RelV y u):
  KT H (putK kvs k y) (storedH xs k b u):=by
 have e:(kvs.any fun kv=>decide (kv.1=k))=(atKey xs k).isSome:=by
  rw [mP,(r.val k).dB,Option.isSome_map]
 unfold putK storedH
 rw [e]
 by_cases q:(atKey xs k).isSome=true
 ·rw [if_pos q,if_pos q];exact r.xT k ry
 ·rw [if_neg q,if_neg q];exact Paired.snoc r ⟨rfl,hb,ry⟩
theorem KT.keeps {H H':Hp} {kvs:List (List Key×V)} {xs:List (List Key×Addr×Value)} (r:KT H kvs xs) (ht:∀b ys,H b=some (.tup ys)→H' b=some (.tup ys)):KT H' kvs xs:=
 Paired.yL r fun _ _ z=>⟨z.1,ht _ _ z.2.1,z.2.2⟩
section
variable {P:Program} {w:World} {H:Hp} {h:Heap} {a:Addr}
theorem w9 {u:HO} (ok:HOk P w H h) (e:Rd H a u):a8 P w H h a u:=e.ok ok
theorem fD {kvs:List (Key×V)} (ok:HOk P w H h) (e:Rd H a (.dK kvs)):kvs.length≤sizeLine∧(a==sysModules)=false∧∃vs,KV kvs vs∧h.DictOf (au P w) a vs:=
 show a8 P w H h a (.dK kvs) from w9 ok e
theorem fc {kvs:List (Key×V)} (ok:HOk P w H h) (e:H a=some (.dK kvs)):kvs.length≤sizeLine∧(a==sysModules)=false∧∃vs,KV kvs vs∧h.DictOf (au P w) a vs:=fD ok (.inl e)
theorem fV {ks:List Key} (ok:HOk P w H h) (e:H a=some (.tup (ks.map kV))):(tupleKind (au P w)).is h ks a:=by
 obtain ⟨_,its,r,o,h1,h2,⟨n,h3⟩,_⟩:=(show a8 P w H h a (.tup (ks.map kV)) from ok a _ e)
 exact ⟨o,its.toArray,n,h1,h2,h3,by simpa using kX r⟩
theorem iA {kvs:List (List Key×V)} (ok:HOk P w H h) (e:Rd H a (.dT kvs)):kvs.length≤sizeLine∧(a==sysModules)=false∧
  ∃xs,KT H kvs xs∧h.DictOfH (tupleKind (au P w)) a xs:=by
 obtain ⟨z,y,xs,r,o,es,ep,h1,h2,h3,h4,h5⟩:=(show a8 P w H h a (.dT kvs) from w9 ok e)
 refine ⟨z,y,xs,r,o,es,ep,h1,h2,h3,h4,fun x hx=>?_,h5⟩
 have all:∀{l:List (List Key×V)} {m:List (List Key×Addr×Value)},KT H l m→∀x∈m,(tupleKind (au P w)).is h x.1 x.2.1:=by
  intro l m q
  induction q with
  | nil=>intro x hx;exact nomatch hx
  | @cons p q ps qs hq t ih=>
   intro x hx
   rcases List.mem_cons.mp hx with e | hx
   ·subst e
    exact fV ok (by rw [←hq.1];exact hq.2.1)
   ·exact ih x hx
 exact all r x hx
theorem AS {kvs:List (List Key×V)} (ok:HOk P w H h) (e:H a=some (.dT kvs)):kvs.length≤sizeLine∧(a==sysModules)=false∧
  ∃xs,KT H kvs xs∧h.DictOfH (tupleKind (au P w)) a xs:=iA ok (.inl e)
end
def eG (H:Hp) (a:Addr) (y:V) (r:Option V):Prop:=
 (∃kvs k,Rd H a (.dK kvs)∧y=kV k∧r=c5 kvs k)∨∃kvs k b,Rd H a (.dT kvs)∧y=.ref b∧H b=some (.tup (k.map kV))∧r=c5 kvs k
def sg (H:Hp) (a:Addr) (y v:V) (H':Hp):Prop:=
 (∃kvs k,H a=some (.dK kvs)∧y=kV k∧kvs.length < sizeLine∧H'=upd H a (.dK (putK kvs k v)))∨
 ∃kvs k b,H a=some (.dT kvs)∧y=.ref b∧H b=some (.tup (k.map kV))∧kvs.length < sizeLine∧H'=upd H a (.dT (putK kvs k v))
theorem eG.k {H:Hp} {a:Addr} {kvs:List (Key×V)} {k:Key} (e:H a=some (.dK kvs)):eG H a (kV k) (c5 kvs k):=.inl ⟨kvs,k,.inl e,rfl,rfl⟩
theorem sg.k {H:Hp} {a:Addr} {kvs:List (Key×V)} {k:Key} {v:V} (e:H a=some (.dK kvs)) (hl:kvs.length < sizeLine):sg H a (kV k) v (upd H a (.dK (putK kvs k v))):=.inl ⟨kvs,k,e,rfl,hl,rfl⟩
section
variable {X:Cx} {pins:List (Addr×Obj)} {σ:St} {H:Hp} {s:Shared} {a:Addr} {y v:V} {u r:Value} {o:Option V} {A:Around} {E:Value→Shared→Prop}
theorem Inv.big (I:Inv X pins σ H s):sysModules < s.heap.objs.size:=by
 have h:mainGlobals < s.heap.objs.size:=(I.mod.glob.keeps I.bk).lt
 exact Nat.lt_trans (by decide) h
theorem lh {Q:Value→Shared→Prop} (hu:A.units+1 < cLine) (I:Inv X pins σ H s) (g:eG H a y (some v)) (ry:RelV y u) (h:∀w' s',Inv X pins σ H s'→RelV v w'→Q w' s'):
  wpAny (model X.prog X.w) A (getItem (.ref a) u) Q E s:=by
 rcases g with ⟨kvs,k,e,ey,l⟩ | ⟨kvs,k,b,e,ey,eb,l⟩
 ·subst ey
  obtain ⟨z,hd,vs,rel,dd⟩:=fD I.hok e
  obtain ⟨w',hw,rw'⟩:=ik.some_of (v:=v) (o:=valueAt vs k) (by rw [l];exact rel.val k)
  exact wpAny_getItem_of (cX ry) dd.mapOf hw (h w' _ (I.tok _) rw')
 ·subst ey
  cases (show u=Value.ref b from ry)
  obtain ⟨z,hd,xs,rel,dd⟩:=iA I.hok e
  obtain ⟨w',hw,rw'⟩:=ik.some_of (v:=v) (o:=(atKey xs k).map (·.2)) (by rw [l];exact rel.val k)
  obtain ⟨p,hp,hp2⟩:=Option.map_eq_some_iff.mp hw
  refine wpAny_getItem_heap (tupleKind_room_in1 hu) (fV I.hok eb) dd hp ?_
  rw [hp2]
  exact h w' _ (I.tok _) rw'
theorem BU {Q:Value→Shared→Prop} (hu:A.units+1 < cLine) (I:Inv X pins σ H s) (g:eG H a y o) (ry:RelV y u) (h:∀s',Inv X pins σ H s'→Q (.bool o.isSome) s'):
  wpAny (model X.prog X.w) A (compareOp .In u (.ref a)) Q E s:=by
 rcases g with ⟨kvs,k,e,ey,l⟩ | ⟨kvs,k,b,e,ey,eb,l⟩
 ·subst ey
  obtain ⟨z,hd,vs,rel,dd⟩:=fD I.hok e
  refine wpAny_in_of (cX ry) hd dd.mapOf ?_
  rw [←(rel.val k).dB,←l]
  exact h _ (I.tok _)
 ·subst ey
  cases (show u=Value.ref b from ry)
  obtain ⟨z,hd,xs,rel,dd⟩:=iA I.hok e
  refine wpAny_in_heap (tupleKind_room_in1 hu) (fV I.hok eb) hd dd ?_
  have q:=(rel.val k).dB
  rw [Option.isSome_map] at q
  rw [←q,←l]
  exact h _ (I.tok _)
theorem wJ {Q:Value→Shared→Prop} (hu:A.units+1 < cLine) (I:Inv X pins σ H s) (g:eG H a y o) (ry:RelV y u) (h:∀s',Inv X pins σ H s'→Q (.bool (!o.isSome)) s'):
  wpAny (model X.prog X.w) A (compareOp .NotIn u (.ref a)) Q E s:=by
 rcases g with ⟨kvs,k,e,ey,l⟩ | ⟨kvs,k,b,e,ey,eb,l⟩
 ·subst ey
  obtain ⟨z,hd,vs,rel,dd⟩:=fD I.hok e
  refine wpAny_notIn_of (cX ry) hd dd.mapOf ?_
  rw [←(rel.val k).dB,←l]
  exact h _ (I.tok _)
 ·subst ey
  cases (show u=Value.ref b from ry)
  obtain ⟨z,hd,xs,rel,dd⟩:=iA I.hok e
  refine wpAny_notIn_heap (tupleKind_room_in1 hu) (fV I.hok eb) hd dd ?_
  have q:=(rel.val k).dB
  rw [Option.isSome_map] at q
  rw [←q,←l]
  exact h _ (I.tok _)
theorem cZ {h':Heap} {t':Nat} {ob:HO} (I:Inv X pins σ H s) (mu:Mut (H a)) (hs:Heap.SameBut a s.heap h') (he:∃q,h'.get? a=some q) (new:a8 X.prog X.w (upd H a ob) h' a ob):
  Inv X pins σ (upd H a ob) {s with heap:=h',toks:=t'}:=
 I.write (x:=a) (e:=a) mu (.inl rfl) (fun b q hb z=>(hs.2 b hb).trans z) he new
theorem hZ {P:Program} {w:World} {H':Hp} {h':Heap} {kvs:List (Key×V)} {vs:List (Key×Value)} (z:kvs.length≤sizeLine) (hd:(a==sysModules)=false) (rel:KV kvs vs) (dd:h'.DictOf (au P w) a vs):
  a8 P w H' h' a (.dK kvs):=⟨z,hd,vs,rel,dd⟩
theorem lg {H':Hp} {Q:Unit→Shared→Prop} (hu:A.units+1 < cLine) (I:Inv X pins σ H s) (g:sg H a y v H') (ry:RelV y u) (rv:RelV v r) (h:∀s',Inv X pins σ H' s'→Q () s'):
  wpAny (model X.prog X.w) A (setItem (.ref a) u r) Q E s:=by
 rcases g with ⟨kvs,k,e,ey,l,eH⟩ | ⟨kvs,k,b,e,ey,eb,l,eH⟩
 ·subst ey eH
  obtain ⟨z,hd,vs,rel,dd⟩:=fc I.hok e
  have hz:vs.length≤sizeLine:=by rw [←rel.length];exact z
  have hl:(putK kvs k v).length≤sizeLine:=by have:=cV kvs k v;omega
  refine wpAny_setItem_pairs (hsz:=hz) (cX ry) dd fun h' dd' hs=>h _ ?_
  have he:∃q,h'.get? a=some q:=let ⟨q,_,_,hq,_⟩:=dd';⟨q,hq⟩
  exact cZ I (by rw [e];exact True.intro) hs he (hZ hl hd (rel.put k rv) dd')
 ·subst ey eH
  cases (show u=Value.ref b from ry)
  obtain ⟨z,hd,xs,rel,dd⟩:=AS I.hok e
  have hz:xs.length≤sizeLine:=by rw [←Paired.length rel];exact z
  have hl:(putK kvs k v).length≤sizeLine:=by have:=cV kvs k v;omega
  refine wpAny_setItem_heap (hsz:=hz) (tupleKind_room_in1 hu) (fV I.hok eb) dd fun h' dd' hs=>h _ ?_
  obtain ⟨q,es,ep,hq,h2,h3,h4,_,h5⟩:=dd'
  refine cZ I (by rw [e];exact True.intro) hs ⟨q,hq⟩ ⟨hl,hd,_,(rel.put k eb rv).keeps fun c ys ec=>?_,q,es,ep,hq,h2,h3,h4,h5⟩
  rw [ai (AA ec e (fun z=>nomatch z))]
  exact ec
end
section
variable {X:Cx} {pins:List (Addr×Obj)} {σ:St} {H:Hp} {s:Shared} {a:Addr} {kvs:List (Key×V)} {k:Key} {u:Value} {A:Around} {E:Value→Shared→Prop}
theorem AU {Q:Value→Shared→Prop} (I:Inv X pins σ H s) (e:Rd H a (.dK kvs)) (h:∀t s',Inv X pins σ H s'→Q (.int kvs.length t) s'):wpAny (model X.prog X.w) A (call (.builtin "len") [.ref a]) Q E s:=by
 obtain ⟨z,hd,vs,rel,dd⟩:=fD I.hok e
 refine call_len_dict hd dd (by rw [←rel.length];rw [sizeLine_eq] at z;omega) ?_
 rw [←rel.length]
 exact h _ _ (I.tok _)
end
def AX (i:Expr):Prop:=∀ov iv,subscripted i false ov iv=operate [ov,iv] (getItem ov iv)
theorem u9 {prog:Program} {w:World} {A:Around} {E:Value→Shared→Prop} {s:Shared} {env:Env} {value slice:Expr} {pos:Pos} {T id:String} {Q:Value→Shared→Prop}
  (hl:typeLookup (.type T) "__getitem__"=pure (some (.builtin id))) (hs:AX slice)
  (h:wpAny (model prog w) A (eval value env) (fun o s₁=>wpAny (model prog w) A (eval slice env) (fun i s₂=>s₂.TypeIs o T∧wpAny (model prog w) A (getItem o i) Q E s₂) E s₁) E s):
  wpAny (model prog w) A (eval (.Subscript value slice pos) env) Q E s:=by
 refine Subscript_ (wpAny_mono h (fun o s₁ h₁=>wpAny_mono h₁ (fun i s₂ h₂=>?_) fun _ _ x=>x) fun _ _ x=>x)
 obtain ⟨hT,h₂⟩:=h₂
 unfold subscriptTail
 refine wpAny_bind ?_
 rw [getitemInPython_of_ne hT.not_modules]
 refine wpAny_bind (wpAny_specialOf hT hl ?_)
 have fin:wpAny (model prog w) A (subscripted slice false o i) (fun r s₃=>wpAny (model prog w) A (letTemporaryGo value o r >>=fun _=>pure r) Q E s₃) E s₂:=by
  rw [hs o i]
  exact wpAny_operating (wpAny_mono h₂ (fun r s₃ h₃=>wpAny_bind (wpAny_letTemporaryGo (wpAny_pure h₃))) fun _ _ x=>x)
 first
  | exact wpAny_pure (wpAny_bind fin)
  | exact wpAny_bind (wpAny_pure (wpAny_bind fin))
  | exact wpAny_bind fin
theorem iB {X:Cx} {pins:List (Addr×Obj)} {σ:St} {H:Hp} {s:Shared} {a:Addr} {y:V} {o:Option V} (I:Inv X pins σ H s) (g:eG H a y o):s.TypeIs (.ref a) "dict":=by
 rcases g with ⟨kvs,k,e,_,_⟩ | ⟨kvs,k,b,e,_,_,_⟩
 ·obtain ⟨_,_,vs,_,dd⟩:=fD I.hok e
  exact dd.typeIs
 ·obtain ⟨_,_,xs,_,dd⟩:=iA I.hok e
  exact dd.typeIs
def sH (td ty:TE):TE:=fun σ H Q=>td σ H fun x H1=>ty σ H1 fun y H2=>∃a v,x=.ref a∧eG H2 a y (some v)∧Q v H2
def sX (td ty tv:TE):TS:=fun D σ H=>tv σ H fun v H1=>td σ H1 fun x H2=>ty σ H2 fun y H3=>∃a H4,x=.ref a∧sg H3 a y v H4∧D.nx σ H4
section
variable {X:Cx} {o i e value:Expr} {pos pos' tpos:Pos} {td ty tv:TE}
theorem qb (hu:X.A.units+1 < cLine) (ho:PE X o td) (hi:PE X i ty) (hs:AX i):PE X (.Subscript o i pos) (sH td ty):=by
 intro pins s σ H Q I h
 refine u9 PySem.F.slot_dict_getitem.lookup hs (thn (ho pins s σ H _ I h) fun u s1 ⟨x,H1,I1,rx,q1⟩=>thn (hi pins s1 σ H1 _ I1 q1) fun iv s2 ⟨y,H2,I2,ry,a,v,ex,g,q2⟩=>?_)
 subst ex
 obtain rfl:u=Value.ref a:=rx
 exact ⟨iB I2 g,lh hu I2 g ry fun w' s3 I3 rw'=>⟨v,H2,I3,rw',q2⟩⟩
theorem vO (hu:X.A.units+1 < cLine) (ho:PE X o td) (hi:PE X i ty) (hv:PE X value tv) (hs:swapsWith value (some (.Subscript o i pos')) pos.line X.env=pure false):
  PS X (.Assign [.Subscript o i pos'] value pos) (sX td ty tv):=by
 intro pins s σ H D I h
 refine wpAny_Assign_Subscript (thn (hv pins s σ H _ I h) fun r s1 ⟨v,H1,I1,rv,q1⟩=>thn (ho pins s1 σ H1 _ I1 q1) fun u s2 ⟨x,H2,I2,rx,q2⟩=>thn (hi pins s2 σ H2 _ I2 q2) fun iv s3 ⟨y,H3,I3,ry,a,H4,ex,g,q3⟩=>?_) hs
 subst ex
 obtain rfl:u=Value.ref a:=rx
 exact lg hu I3 g ry rv fun s4 I4=>⟨σ,H4,I4,q3⟩
end
theorem fe {P:Program} {w:World} {H:Hp} (h:Heap) (hb:sysModules < h.objs.size):a8 P w H (h.push {cls:=.type "dict",data:=.dict #[]}) h.objs.size (.dK []):=
 ⟨Nat.zero_le _,beq_eq_false_iff_ne.mpr (Ne.symm (Nat.ne_of_lt hb)),[],.nil,Heap.DictOf.new h⟩
def xC:TE:=fun _ H Q=>∀p,H p=none→Q (.ref p) (upd H p (.dK []))
section
variable {X:Cx} {pos:Pos}
theorem nC:PE X (.Dict [] [] pos) xC:=fun pins s σ H Q I h=>
 wpAny_Dict_empty ⟨.ref s.heap.objs.size,_,I.laid (a:=s.heap.objs.size) (o:=.dK []) (t':=s.toks) (fun _ _ q=>Heap.get?_push_of_some _ q) (Nat.le_refl _) (fe s.heap I.big),rfl,h _ (I.hok.fresh (Nat.le_refl _))⟩
end
def lH:List (TE×TE)→St→Hp→(List (V×V)→Hp→Prop)→Prop
 | [],_,H,Q=>Q [] H
 | (tk,tv)::r,σ,H,Q=>tk σ H fun x H1=>tv σ H1 fun y H2=>lH r σ H2 fun ps H3=>Q ((x,y)::ps) H3
abbrev VV:List (V×V)→List (Value×Value)→Prop:=Paired fun p q=>RelV p.1 q.1∧RelV p.2 q.2
def PPs (X:Cx) (pos:Pos) (keys:List (Option Expr)) (values:List Expr) (trs:List (TE×TE)):Prop:=
 ∀(pins:List (Addr×Obj)) (s:Shared) (σ:St) (H:Hp) (Q:List (V×V)→Hp→Prop),Inv X pins σ H s→lH trs σ H Q→
  wpAny (model X.prog X.w) X.A (evalPairs (pairTrees keys values X.env pos)) (fun vs s'=>∃ps H',Inv X pins σ H' s'∧VV ps vs∧Q ps H') X.xe s
theorem vP {X:Cx} {pos:Pos}:PPs X pos [] [] []:=fun pins s σ H Q I h=>pairTrees_nil_walk ⟨[],H,I,.nil,h⟩
theorem tJ {X:Cx} {pos:Pos} {k v:Expr} {ks:List (Option Expr)} {vs:List Expr} {tk tv:TE} {trs:List (TE×TE)} (hk:PE X k tk) (hv:PE X v tv) (hr:PPs X pos ks vs trs):
  PPs X pos (some k::ks) (v::vs) ((tk,tv)::trs):=fun pins s σ H Q I h=>
 pairTrees_cons_walk (thn (hk pins s σ H _ I h) fun u s1 ⟨x,H1,I1,rx,q1⟩=>thn (hv pins s1 σ H1 _ I1 q1) fun w2 s2 ⟨y,H2,I2,ry,q2⟩=>
  thn (hr pins s2 σ H2 _ I2 q2) fun ws s3 ⟨ps,H3,I3,rel,q3⟩=>⟨(x,y)::ps,H3,I3,.cons ⟨rx,ry⟩ rel,q3⟩)
def aC (kvs more:List (Key×V)):List (Key×V):=more.foldl (fun acc kv=>putK acc kv.1 kv.2) kvs
theorem KV.merge:∀{more:List (Key×V)} {rs:List (Key×Value)} {kvs:List (Key×V)} {vs:List (Key×Value)},KV more rs→KV kvs vs→KV (aC kvs more) (merged vs rs):=by
 intro more rs kvs vs r
 unfold KV at r
 induction r generalizing kvs vs with
 | nil=>intro q;exact q
 | @cons p q ps qs h t ih=>
  intro r0
  have e:KV (putK kvs p.1 p.2) (stored vs q.1 q.2):=by
   have:=r0.put p.1 h.2
   rw [←h.1];exact this
  exact ih e
theorem cy:∀(more kvs:List (Key×V)),(aC kvs more).length≤kvs.length+more.length
 | [],kvs=>by show kvs.length≤kvs.length+0;omega
 | p::r,kvs=>by
  have h1:=cy r (putK kvs p.1 p.2)
  have h2:=cV kvs p.1 p.2
  show (aC (putK kvs p.1 p.2) r).length≤_
  rw [List.length_cons];omega
theorem jM {P:Program} {w:World}:∀{kvs:List (Key×V)} {ws:List (Value×Value)},VV (kvs.map fun kv=>(kV kv.1,kv.2)) ws→∃rs,Carries (au P w) ws rs∧KV kvs rs
 | [],_,r=>by rw [List.map_nil] at r;cases r;exact ⟨[],True.intro,.nil⟩
 | p::kvs,_,r=>by
  rw [List.map_cons] at r
  cases r with
  | @cons a b as bs h t=>
   obtain ⟨rs,c,q⟩:=jM (P:=P) (w:=w) t
   obtain ⟨b1,b2⟩:=b
   exact ⟨(p.1,b2)::rs,⟨cX h.1,rfl,c⟩,.cons ⟨rfl,h.2⟩ q⟩
def wW (trs:List (TE×TE)):TE:=fun σ H Q=>∀p,H p=none→lH trs σ (upd H p (.dK [])) fun ps H2=>H2 p=some (.dK [])∧∃kvs:List (Key×V),ps=kvs.map (fun kv=>(kV kv.1,kv.2))∧kvs.length≤15∧Q (.ref p) (upd H2 p (.dK (aC [] kvs)))
theorem qa {X:Cx} {pos:Pos} {keys:List (Option Expr)} {values:List Expr} {trs:List (TE×TE)} (h:PPs X pos keys values trs) (hall:keys.all (·.isSome)=true) (hl:keys.length=values.length) (h0:keys≠[])
  (h15:keys.length≤15):PE X (.Dict keys values pos) (wW trs):=by
 intro pins s σ H Q I q
 have hn:=I.hok.fresh (Nat.le_refl s.heap.objs.size)
 have I1:=I.laid (a:=s.heap.objs.size) (o:=.dK []) (h':=s.heap.push {cls:=.type "dict",data:=.dict #[]}) (t':=s.toks) (fun _ _ q=>Heap.get?_push_of_some _ q) (Nat.le_refl _) (fe s.heap I.big)
 refine wpAny_Dict_walk (knd:=au X.prog X.w) hall hl h0 h15 (thn (h pins _ σ _ _ I1 (q _ hn)) fun ws s2 ⟨ps,H2,I2,rel,e,kvs,ep,lk,q2⟩=>?_)
 subst ep
 obtain ⟨rs,c,rk⟩:=jM (P:=X.prog) (w:=X.w) rel
 obtain ⟨z,hd,vs0,r0,dd⟩:=fc I2.hok e
 cases r0
 refine ⟨rs,c,dd,fun h' dd' hs=>⟨.ref s.heap.objs.size,_,?_,rfl,q2⟩⟩
 have hz:(aC [] kvs).length≤sizeLine:=by
  have h1:=cy kvs []
  rw [List.length_nil] at h1
  rw [sizeLine_eq];omega
 have he:∃q,h'.get? s.heap.objs.size=some q:=let ⟨q,_,_,hq,_⟩:=dd';⟨q,hq⟩
 exact cZ I2 (by rw [e];exact True.intro) hs he (hZ hz hd (rk.merge .nil) dd')
structure M2 (X:Cx) (o:Expr) (m:Str) (apos:Pos) (e f:Expr) (cpos:Pos):Prop where
 base:attributeBase o m X.env (eval o X.env)=eval o X.env
 few:((backTo cpos (starEach [e,f] X.env)).all (fun x=>!x.1)&&(backToKw cpos (keywordEach [] X.env)).all (fun x=>x.1.isSome)
  &&decide (([e,f]:List Expr).length+([]:List Keyword).length+(if ([]:List Keyword).isEmpty then 0 else 1) < 30))=true
 line:(apos.endLine==cpos.line)=true
 trees:backTo cpos (starEach [e,f] X.env)=[(false,eval e X.env),(false,eval f X.env)]
def IsD (H:Hp) (a:Addr):Prop:=(∃kvs,Rd H a (.dK kvs))∨∃kvs,Rd H a (.dT kvs)
theorem yV {X:Cx} {pins:List (Addr×Obj)} {σ:St} {H:Hp} {s:Shared} {a:Addr} (I:Inv X pins σ H s) (d:IsD H a):
  s.TypeIs (.ref a) "dict"∧(∀b,Value.ref a=.ref b→∃ob,s.heap.get? b=some ob∧ob.dict=none)∧(a==sysModules)=false:=by
 rcases d with ⟨kvs,e⟩ | ⟨kvs,e⟩
 ·obtain ⟨_,hd,vs,_,dd⟩:=fD I.hok e
  refine ⟨dd.typeIs,fun b q=>?_,hd⟩
  cases q
  obtain ⟨ob,_,_,h1,h2,_⟩:=dd
  exact ⟨ob,h1,h2.2.1⟩
 ·obtain ⟨_,hd,xs,_,dd⟩:=iA I.hok e
  refine ⟨dd.typeIs,fun b q=>?_,hd⟩
  cases q
  obtain ⟨ob,_,_,h1,h2,_⟩:=dd
  exact ⟨ob,h1,h2.2.1⟩
section
variable {X:Cx} {pins:List (Addr×Obj)} {σ:St} {H:Hp} {s:Shared} {a:Addr} {y d:V} {u r:Value} {o:Option V} {A:Around} {E:Value→Shared→Prop}
theorem y8 {Q:Value→Shared→Prop} (hu:A.units+1 < cLine) (I:Inv X pins σ H s) (g:eG H a y o) (ry:RelV y u) (h:∀w' s',Inv X pins σ H s'→RelV (o.getD .non) w'→Q w' s'):
  wpAny (model X.prog X.w) A (call (.builtin "dict.get") [.ref a,u]) Q E s:=by
 rcases g with ⟨kvs,k,e,ey,l⟩ | ⟨kvs,k,b,e,ey,eb,l⟩
 ·subst ey
  obtain ⟨z,hd,vs,rel,dd⟩:=fD I.hok e
  refine call_meetsIn PySem.F.slot_dict_get dd.typeIs PySem.F.entry_dict_get (PySem.F.args_dict_get_2 _ _) (meets_dict_get (au X.prog X.w) a (cX ry) hd) ⟨_,dd.mapOf,h _ _ (I.tok _) ?_⟩
  rw [l]
  exact (rel.val k).getD rfl
 ·subst ey
  cases (show u=Value.ref b from ry)
  obtain ⟨z,hd,xs,rel,dd⟩:=iA I.hok e
  refine call_meetsIn PySem.F.slot_dict_get dd.typeIs PySem.F.entry_dict_get (PySem.F.args_dict_get_2 _ _) (meetsH_dict_get (tupleKind (au X.prog X.w)) a b hd) ⟨tupleKind_room_in1 hu,k,xs,fV I.hok eb,dd,h _ _ (I.tok _) ?_⟩
  rw [l]
  exact (rel.val k).getD rfl
theorem uE {Q:Value→Shared→Prop} (hu:A.units+1 < cLine) (I:Inv X pins σ H s) (g:eG H a y o) (ry:RelV y u) (rd:RelV d r) (h:∀w' s',Inv X pins σ H s'→RelV (o.getD d) w'→Q w' s'):
  wpAny (model X.prog X.w) A (call (.builtin "dict.get") [.ref a,u,r]) Q E s:=by
 rcases g with ⟨kvs,k,e,ey,l⟩ | ⟨kvs,k,b,e,ey,eb,l⟩
 ·subst ey
  obtain ⟨z,hd,vs,rel,dd⟩:=fD I.hok e
  refine call_meetsIn PySem.F.slot_dict_get dd.typeIs PySem.F.entry_dict_get (PySem.F.args_dict_get_3 _ _ _) (meets_dict_get_default (au X.prog X.w) a (cX ry) hd r) ⟨_,dd.mapOf,h _ _ (I.tok _) ?_⟩
  rw [l]
  exact (rel.val k).getD rd
 ·subst ey
  cases (show u=Value.ref b from ry)
  obtain ⟨z,hd,xs,rel,dd⟩:=iA I.hok e
  refine call_meetsIn PySem.F.slot_dict_get dd.typeIs PySem.F.entry_dict_get (PySem.F.args_dict_get_3 _ _ _) (meetsH_dict_get_default (tupleKind (au X.prog X.w)) a b hd r) ⟨tupleKind_room_in1 hu,k,xs,fV I.hok eb,dd,h _ _ (I.tok _) ?_⟩
  rw [l]
  exact (rel.val k).getD rd
end
def sG (td ty tx:TE):TE:=fun σ H Q=>td σ H fun x H1=>∃a,x=.ref a∧IsD H1 a∧ty σ H1 fun y H2=>tx σ H2 fun z H3=>∃o,eG H3 a y o∧Q (o.getD z) H3
section
variable {X:Cx} {o e f:Expr} {apos cpos:Pos} {td ty tx:TE}
theorem tR (hu:X.A.units+1 < cLine) (ho:PE X o td) (he:PE X e ty) (hf:PE X f tx) (m:M2 X o "get" apos e f cpos):PE X (.Call (.Attribute o "get" apos) [e,f] [] cpos) (sG td ty tx):=by
 intro pins s σ H Q I h
 refine wpAny_Call_method m.base m.few m.line PySem.F.plainAttrs_dict PySem.F.slot_dict_get PySem.F.type_dict_get (thn (ho pins s σ H _ I h) fun u s1 ⟨x,H1,I1,rx,a,ex,d,q1⟩=>?_)
 subst ex
 obtain rfl:u=Value.ref a:=rx
 obtain ⟨t1,t2,_⟩:=yV I1 d
 refine ⟨t1,t2,?_⟩
 rw [m.trees]
 refine Calls.callWith_builtin rfl (Calls.evalArgs_plain (Calls.spliced_cons (thn (he pins s1 σ H1 _ I1 q1) fun iv s2 ⟨y,H2,I2,ry,q2⟩=>
  Calls.spliced_cons (thn (hf pins s2 σ H2 _ I2 q2) fun fv s3 ⟨z,H3,I3,rz,ov,g,q3⟩=>Calls.spliced_nil ?_))))
 exact uE hu I3 g ry rz fun w' s4 I4 rw'=>⟨_,H3,I4,rw',q3⟩
end
section
variable {X:Cx} {pins:List (Addr×Obj)} {σ:St} {H:Hp} {s:Shared} {a:Addr} {kvs:List (Key×V)} {A:Around} {E:Value→Shared→Prop}
theorem nZ {Q:Value→Shared→Prop} (I:Inv X pins σ H s) (e:Rd H a (.dK kvs)) (h:∀p s',H p=none→Inv X pins σ (upd H p (.dK kvs)) s'→Q (.ref p) s'):wpAny (model X.prog X.w) A (call (.type "dict") [.ref a]) Q E s:=by
 obtain ⟨z,hd,vs,rel,dd⟩:=fD I.hok e
 refine kt_call_dict hd dd (by rw [←rel.length];exact z) fun h' dd' hs=>?_
 refine h _ _ (I.hok.fresh (Nat.le_refl _)) (I.laid (a:=s.heap.objs.size) (o:=.dK kvs) (t':=s.toks) (fun b q hq=>?_) (Nat.le_refl _) (hZ z (beq_eq_false_iff_ne.mpr (Ne.symm (Nat.ne_of_lt I.big))) rel dd'))
 exact (hs.2 b (Nat.ne_of_lt (Heap.lt_size hq))).trans (Heap.get?_push_of_some _ hq)
end
section
variable {X:Cx} {pins:List (Addr×Obj)} {σ:St} {H:Hp} {s:Shared} {a:Addr} {y:V} {u:Value} {A:Around} {E:Value→Shared→Prop}
end
end L2
namespace Att
open PySem PySem.W PySem.Calls PyProof.Rows
theorem iG {P:Params} {h:Heap}:∀(ns:List Int) (vs:List Value),WellAll P h vs (ns.map WData.int)→IntsAre vs ns:=by
 intro ns
 induction ns with
 | nil=>
  intro vs w
  rw [List.map_nil] at w
  cases w
  exact .nil
 | cons n ns ih=>
  intro vs w
  rw [List.map_cons] at w
  cases w with
  | cons a b=>
   cases a
   exact .cons _ _ (ih _ b)
theorem qU {l:OpenLaw} {n:Nat} (hn:l.most=some n) {P:Params} {h:Heap} {args:List WData} {vals:List Value}
  (hpre:l.row.toRowW.claim.pre args=true) (hwl:WellAll P h vals args):
  ∃a vs ns,vals=[Value.ref a]∧args=[WData.list (ns.map WData.int)]∧h.get? a=some {cls:=.type "list",data:=.seq vs.toArray}∧IntsAre vs ns∧ns.length≤n:=by
 have hsh:WShape.hasAll [] args [.list .int]=true:=(pre_splitW hpre).1
 have hc:l.pre.holds [] {args:=args}=true:=(pre_splitW hpre).2
 obtain ⟨d,r,rfl,h1,h2⟩:=hasAllW_cons hsh
 obtain rfl:=hasAllW_nil h2
 obtain ⟨xs,rfl,h3⟩:=hasW_list h1
 obtain ⟨ns,rfl⟩:=items_int h3
 have hlen:ns.length≤n:=by
  unfold OpenLaw.pre at hc
  have h4:(WTm.not (.lt (.lit (.int (n:Int))) (.len (.arg 0)))).holds [] {args:=[.list (ns.map .int)]}=true:=by
   have h4:=(holds_andW hc).1
   rw [hn] at h4
   exact h4
  have h5:=condW_of h4 (w_not (w_lt w_lit (w_len_list (w_arg rfl))))
  rw [List.length_map] at h5
  refine Nat.le_of_not_lt fun q=>?_
  have q':(n:Int) < ((ns.length:Nat):Int):=by omega
  first
   | (rw [decide_eq_true q'] at h5;exact absurd h5 (by decide))
   | (simp at h5;omega)
 cases hwl with
 | cons w1 w2=>
  cases w2
  cases w1 with
  | list ho hall=>exact ⟨_,_,ns,rfl,rfl,ho,iG ns _ hall,hlen⟩
theorem q9 (l:OpenLaw) (args:List WData):l.row.toRowW.claim.post args (.bool true) args=true:=
 postW_of (r:=l.row.toRowW) (X:=(true==true))
  (show WShape.has [] (.bool true) .bool=true by first | rfl | decide | simp [WShape.has,WShape.arms,WShape.armsAll])
  (show (WTm.eq .res (.lit (.bool true))).value [] {args:=args,res:=some (.bool true),after:=args}=some (.bool (true==true)) from w_eq_bool (w_res rfl) w_lit) rfl
theorem oo {l:OpenLaw} {n:Nat} {q:Program} {loose:List Str} {XP:(Str→Option Value)→Heap→Prop} {YP:World→Heap→Prop} {d:DefRec}
  (hn:l.most=some n) (hdf:d.params.defaults=[])
  (call:∀(w:World) (s₀ s₁:Shared) (mg mb:Str→Option Value) (fa:Addr) (o:Obj) (pm cd doc:Value) (a:Addr) (vs:List Value) (ns:List Int),
   Ground q loose [] XP w s₀ mg mb s₁.heap→YP w s₁.heap→
   s₁.heap.get? fa=some o→o.data=.func (docDef d.name d.params d.body d.scope pm cd doc)→s₁.heap.CodeRec cd d.name→mg d.name=some (.ref fa)→
   s₁.heap.get? a=some {cls:=.type "list",data:=.seq vs.toArray}→IntsAre vs ns→ns.length≤n→s₁.gens=#[]→
   codeAny (model l.prog w) callerA (.call (.ref fa) ⟨[.ref a],[]⟩) (fun r s'=>r=.ok (.ret (.bool true))∧OldK s₁.heap s'.heap∧s'.os=s₁.os∧AllBare s'.gens) s₁):
  WalkO q loose XP YP l.row.toRowW d [] (fun f vs=>PySem.call f vs):=by
 intro w s₀ s₁ mg mb G Y fa o pm cd doc dV kV ho hd hcd hD hmg hg args vals as hpre hlay hrd hwl hlo
 obtain rfl:dV=.none:=Dflts.none hD hdf
 obtain rfl:kV=.none:=Dflts.noKw hD
 obtain ⟨a,vs,ns,rfl,rfl,hobj,hints,hlen⟩:=qU hn hpre hwl
 refine enter_call (codeAny_mono (call w s₀ s₁ mg mb fa o pm cd doc a vs ns G Y ho (fd_plain hd) hcd hmg hobj hints hlen hg) fun r s' hq=>?_)
 obtain ⟨rfl,h2,h3,h4⟩:=hq
 exact ⟨.inl ⟨.bool true,.bool true,[],rfl,fun _=>rfl,.bool true,q9 l _,fun _=>⟨List.Pairwise.nil,fun _ hm=>(nomatch hm)⟩⟩,h2,h3,h4⟩
section
variable {prog:Program} {w:World} {A:Around} {E:Value→Shared→Prop} {s:Shared} {K:Frag}
end
end Att
namespace L2
open PySem PySem.Spec PyProof.Rows
theorem kz:∀{vs:List Value} {ns:List Int},IntsAre vs ns→Vals (ns.map V.int) vs
 | _,_,.nil=>.nil
 | _,_,.cons n t h=>.cons ⟨t,rfl⟩ (kz h)
def AW (H:Hp):Prop:=∀b,H b=none∨∃o xs,H b=some (.frz o (.lst xs))
theorem t9 {P:Program} {w:World} {K:PySem.W.Frag} {mg mb:Str→Option Value} {CX:CXT} {k:Nat} {fa a:Addr} {fd:FuncData} {x:Str} {sp:Sp} {s₁:Shared} {vs:List Value} {ns:List Int}
  (KX:K.In s₁.heap) (hns:s₁.heap.Ns mainGlobals mg) (hb:s₁.heap.Ns builtinsNs mb) (hbb:∀x:Str,x≠"__name__"→mb x=bootBuiltins x) (hlim:s₁.heap.NoLimit) (hg:s₁.gens=#[])
  (ha:s₁.heap.get? a=some {cls:=.type "list",data:=.seq vs.toArray}) (hi:IntsAre vs ns) (hl:ns.length≤sizeLine) (hr:Room k callerA)
  (F:∀base:Heap,K.In base→base.Ns mainGlobals mg→FnOk P w K mg base CX k fa fd [x] sp) (hbind:∀(s:Shared) (u:Value),BindsTo s fd ⟨[u],[]⟩ [(x,u)])
  (hsp:∀H:Hp,AW H→SqL K H a (ns.map V.int)→sp [.ref a] H (fun v _=>v=.bl true) fun _ _ _=>False)
  (hCX:∀H e s',CX [] H s₁ (fun _ _ _=>False) e s'→False):
  codeAny (model P w) callerA (.call (.ref fa) ⟨[.ref a],[]⟩) (fun r s'=>r=.ok (.ret (.bool true))∧OldK s₁.heap s'.heap∧s'.os=s₁.os∧AllBare s'.gens) s₁:=by
 have rv:=kz hi
 have lenV:=hi.length
 have core:∀H:Hp,AW H→SqL K H a (ns.map V.int)→HOk P w H s₁.heap→(∀b,H b≠none→b=a)→(H a≠none→K.lookup a=none)→
   codeAny (model P w) callerA (.call (.ref fa) ⟨[.ref a],[]⟩) (fun r s'=>r=.ok (.ret (.bool true))∧OldK s₁.heap s'.heap∧s'.os=s₁.os∧AllBare s'.gens) s₁:=by
  intro H hO hS hok hA hK
  have base_of:∀{b:Addr} {o:Obj},s₁.heap.get? b=some o→H b=none→(mr s₁.heap H).get? b=some o:=fun e n=>ud e n
  have noA:∀{b:Addr} {o:Obj} {es:Array DictEntry} {ep:Nat},s₁.heap.get? b=some o→o.data=.dict es ep→H b=none:=fun {b o es ep} e d=>by
   cases q:H b with
   | none=>rfl
   | some u=>
    have e':b=a:=hA b (by rw [q];simp)
    subst e'
    rw [ha] at e;cases e
    have d':Data.seq vs.toArray _=Data.dict es ep:=d
    cases d'
  have nsK:∀{b:Addr} {m:Str→Option Value},s₁.heap.Ns b m→(mr s₁.heap H).Ns b m:=fun {b m} ⟨o,es,ep,e,d,r⟩=>⟨o,es,ep,base_of e (noA e d),d,r⟩
  have hKb:K.In (mr s₁.heap H):=fun b o e=>base_of (KX b o e) (by
   cases q:H b with
   | none=>rfl
   | some u=>
    have e':b=a:=hA b (by rw [q];simp)
    subst e'
    rw [hK (by rw [q];simp)] at e;cases e)
  have hM:Mod K mg (mr s₁.heap H):=⟨hKb,nsK hns,⟨mb,nsK hb,hbb⟩,let ⟨mc,h1,h2⟩:=hlim;⟨mc,nsK h1,h2⟩⟩
  have e0:Env0 P w K mg (mr s₁.heap H) callerA [] s₁ H:=⟨rfl,hM,fun b o e=>wg e,Nat.le_of_eq (rP _ _),trivial,fun b hb=>absurd (show b∈([]:List Addr) from hb) (by simp),hok,.of_eq hg⟩
  refine codeAny_mono ((F _ hKb (nsK hns)).run callerA [] s₁ H ⟨[.ref a],[]⟩ [.ref a] [.ref a] _ _ hr e0 (hbind s₁ (.ref a)) (.cons rfl .nil) (hsp H hO hS)) fun r s' h=>?_
  cases r with
  | error e=>exact (hCX H e s' h).elim
  | ok fl=>
   cases fl with
   | next=>exact False.elim h
   | brk=>exact False.elim h
   | cont=>exact False.elim h
   | ret u=>
    obtain ⟨v,H',os,bare,un,hok',r',q⟩:=h
    have q':v=.bl true:=q
    subst q'
    obtain rfl:u=Value.bool true:=r'
    refine ⟨rfl,OldK.of_keep fun b o e=>?_,os,bare⟩
    cases q:H b with
    | none=>exact un.keep b o e q (by intro z;exact absurd (show b∈([]:List Addr) from z) (by simp)) (by simp)
    | some u=>
     rcases hO b with z | ⟨ob,xs,z⟩
     ·rw [q] at z;cases z
     ·have z2:=un.frzs b ob _ z
      obtain ⟨e1,_⟩:=hok b _ z
      obtain ⟨e2,_⟩:=hok' b _ z2
      rw [e] at e1;cases e1
      exact e2
 cases hk:K.lookup a with
 | some o=>
  have e:=KX a o hk
  rw [ha] at e
  cases e
  refine core (fun _=>none) (fun _=>.inl rfl) (.inr ⟨_,vs.toArray,_,hk,rfl,rfl,rfl,by rw [List.size_toArray,lenV];exact hl,by simpa using rv⟩) (fun b u z=>by have z':(none:Option HO)=some u:=z;cases z') (fun b z=>absurd rfl z) fun z=>absurd rfl z
 | none=>
  refine core (fun b=>if b=a then some (.frz {cls:=.type "list",data:=.seq vs.toArray} (.lst (ns.map V.int))) else none) (fun b=>?_) (.inl (.inr ⟨{cls:=.type "list",data:=.seq vs.toArray},if_pos rfl⟩)) (fun b u z=>?_) (fun b z=>?_) fun _=>hk
  ·by_cases hb:b=a
   ·exact .inr ⟨_,_,if_pos hb⟩
   ·exact .inl (if_neg hb)
  ·by_cases hb:b=a
   ·have z':=(if_pos hb).symm.trans z
    cases z'
    subst hb
    exact ⟨ha,by rw [List.length_map];exact hl,vs,_,rv,ha⟩
   ·have z':=(if_neg hb).symm.trans z
    cases z'
  ·by_cases hb:b=a
   ·exact hb
   ·exact absurd (if_neg hb) z
end L2
namespace L2
open PySem PySem.Spec PyProof.Rows
end L2
namespace L2
open PySem PySem.Spec PyProof.Rows
def gD (s:Stmt):Arguments:=match s with
 | .FunctionDef _ a _ _ _ _ _ _ _ _=>a
 | _=>{posonlyargs:=[],args:=[],vararg:=none,kwonlyargs:=[],kw_defaults:=[],kwarg:=none,defaults:=[]}
def dY (s:Stmt):List Stmt:=match s with
 | .FunctionDef _ _ b _ _ _ _ _ _ _=>b
 | _=>[]
def ay (s:Stmt):Scope:=match s with
 | .FunctionDef _ _ _ _ _ _ sc _ _ _=>sc
 | _=>{kind:=.function,names:=[],isGenerator:=false,isCoroutine:=false}
abbrev CX0:CXT:=fun _ _ _ _ _ _=>False
abbrev E0:XK:=fun _ _ _=>False
theorem Ap {X:Cx}:Passes CX0 X E0:=fun _ _ _ _ _ _ _ h=>h.elim
structure Fun (K:PySem.W.Frag) (x qual:Str) (st:Stmt) (f:Addr) (fd:FuncData):Prop where
 ex:∃(oc:Value) (od:Option Addr) (kV doc pm:Value) (an:Option Addr) (cdv ct:Value) (osl:Array (Option Value)),
  fd=PySem.W.fnOf x qual (gD st) (dY st) (ay st) .none kV doc pm an cdv ct∧K.lookup f=some ⟨oc,od,.func fd,osl⟩∧PySem.W.codeIn K cdv qual=true
 kp:PySem.W.keepIn K (.ref f)=true
section
variable {P:Program} {w:World} {K:PySem.W.Frag} {mg:Str→Option Value} {base:Heap}
theorem Fun.ok {x qual:Str} {st:Stmt} {f:Addr} {fd:FuncData} {N ps:List Str} {k:Nat} {sp:Sp} (F:Fun K x qual st f fd) (S:FnScope N ps (ay st)) (len:∀vs H Q E,sp vs H Q E→vs.length=ps.length)
  (hbody:∀(cdv:Value) (A:Around) (outer:List Env) (s:Shared) (H:Hp) (vs:List V) (Q:VK) (E:XK),Room k (A.deeper (envOfC qual (ay st) s.heap.objs.size f cdv))→sp vs H Q E→
   ∃t,PSs (pA CX0 P w K mg base N qual (ay st) f cdv A outer s H E).nox (dY st) t∧t {nx:=fun _ H'=>Q .non H',rt:=Q} (start N vs) H):FnOk P w K mg base CX0 (k+1) f fd ps sp:=by
 obtain ⟨oc,od,kV,doc,pm,an,cdv,ct,osl,rfl,lk,hcd⟩:=F.ex
 refine AQ lk hcd S len fun A outer s H vs Q E hr hsp=>?_
 obtain ⟨t,h,q⟩:=hbody cdv A outer s H vs Q E hr hsp
 exact ⟨t,h.nox,q⟩
theorem Fun.binds {x qual:Str} {st:Stmt} {f:Addr} {fd:FuncData} {ps:List Str} (F:Fun K x qual st f fd)
  (h:∀(kV doc pm:Value) (an:Option Addr) (cdv ct:Value) (us:List Value),us.length=ps.length→bindArgs (PySem.W.fnOf x qual (gD st) (dY st) (ay st) .none kV doc pm an cdv ct) ⟨us,[]⟩=pure (ps.zip us)):Binds K fd ps []:=by
 obtain ⟨oc,od,kV,doc,pm,an,cdv,ct,osl,rfl,lk,hcd⟩:=F.ex
 exact .all (h kV doc pm an cdv ct)
end
theorem kY {A:Around} {k:Nat} (hr:Room k A):A.units+1 < cLine:=Nat.lt_of_le_of_lt (Nat.add_le_add_left (by decide:1≤64) _) hr.units
section
variable {X:Cx}
theorem pv (i:Nat) {x:Str} {pos:Pos} (hN:X.N[i]?=some x:=by rfl) (hv:Vis X.env.scope x:=by first | exact Or.inl rfl | exact Or.inr (Or.inl rfl) | exact Or.inr (Or.inr rfl)) (hd:(x==("__debug__":Str))=false:=by decide)
  (hcd:(x==("__classdict__":Str))=false:=by decide):PE X (.Name x pos) (i0 i):=tN hN hv hd hcd
theorem sd:cJ X (.builtin "len") (fun xs H Q=>∃a kvs,xs=[V.ref a]∧H a=some (.dK kvs)∧Q (.int kvs.length) H):=by
 intro pins s σ H xs us Q I r h
 obtain ⟨a,kvs,rfl,ha,q⟩:=h
 obtain ⟨u,rfl,ru⟩:=vals1 r
 cases ru
 exact AU I (.inl ha) fun t s' I'=>⟨.int kvs.length,H,I',⟨t,rfl⟩,q⟩
end
theorem AI {A B:Prop} (h:B):if false=true then A else B:=by
 rw [if_neg Bool.false_ne_true]
 exact h
theorem rL {A B:Prop} (h:A):if true=true then A else B:=by
 rw [if_pos rfl]
 exact h
section
variable {κ:Type} [DecidableEq κ]
end
end L2
namespace L2
open PySem PySem.Spec PyProof.Rows
theorem HOk.off {P:Program} {w:World} {H:Hp} {h h':Heap} {C:Addr} (ok:HOk P w H h) (hC:H C=none) (k:∀b u,b≠C→h.get? b=some u→h'.get? b=some u):HOk P w H h':=by
 intro a o e
 have ne:a≠C:=by rintro rfl;rw [hC] at e;cases e
 refine (ok a o e).iD (fun b u hb q=>k b u ?_ q) (fun _ x=>x) (fun _ _ x=>x)
 rcases hb with rfl | hb
 ·exact ne
 ·rintro rfl;rw [hC] at hb;cases hb
def dj (env:Env):List (Str×NameKind)→List (Str×Addr)→List (Str×Addr)
 | [],acc=>acc
 | (n,k)::r,acc=>if (k==NameKind.free)=true then dj env r ((n,(env.cells.lookup n).getD 0)::acc) else dj env r acc
theorem jJ {env:Env} {scope:Scope} (h:∀y∈scope.names,y.2=.free→∃c,env.cells.lookup y.1=some c):closureFor scope env=pure (dj env scope.names []):=by
 have key:∀(names:List (Str×NameKind)) (acc:List (Str×Addr)),(∀y∈names,y.2=.free→∃c,env.cells.lookup y.1=some c)→
   (forIn names acc (fun (x:Str×NameKind) (r:List (Str×Addr))=>match x with
    | (name,kind)=>if (kind==NameKind.free)=true then do let a←cellOf env name;pure (ForInStep.yield ((name,a)::r)) else pure (ForInStep.yield r)):Sem (List (Str×Addr)))=pure (dj env names acc):=by
  intro names
  induction names with
  | nil=>intro acc _;rfl
  | cons y r ih=>
   intro acc hy
   obtain ⟨n,k⟩:=y
   have hr:=fun a=>ih a fun z hz=>hy z (List.mem_cons_of_mem _ hz)
   rw [List.forIn_cons]
   unfold dj
   by_cases hk:(k==NameKind.free)=true
   ·have hk':k=.free:=by simpa using hk
    obtain ⟨c,hc⟩:=hy (n,k) List.mem_cons_self hk'
    have e:cellOf env n=pure c:=by unfold cellOf;rw [hc]
    simp only [hk,if_true,e,hc,Option.getD_some]
    exact hr _
   ·simp only [hk,if_false]
    exact hr _
 have k:=key scope.names [] h
 unfold closureFor
 dsimp only
 rw [k]
 rfl
theorem ia {env:Env} {x:Str} {c:Addr}:∀(names:List (Str×NameKind)) (acc:List (Str×Addr)),(∀y∈names,y.2=.free→∃c,env.cells.lookup y.1=some c)→
  (∀d,acc.lookup x=some d→env.cells.lookup x=some d)→(dj env names acc).lookup x=some c→env.cells.lookup x=some c
 | [],acc,_,ha,h=>ha c h
 | (n,k)::r,acc,hy,ha,h=>by
  unfold dj at h
  have hr:=fun z hz=>hy z (List.mem_cons_of_mem _ hz)
  by_cases hk:(k==NameKind.free)=true
  ·rw [if_pos hk] at h
   refine ia r _ hr (fun d hd=>?_) h
   have hk':k=.free:=by simpa using hk
   obtain ⟨c',hc⟩:=hy (n,k) List.mem_cons_self hk'
   rw [List.lookup_cons] at hd
   cases hx:x==n with
   | true=>
    rw [hx] at hd
    have e:x=n:=by simpa using hx
    rw [e,hc]
    rw [hc] at hd
    exact hd
   | false=>
    rw [hx] at hd
    exact ha d hd
  ·rw [if_neg hk] at h
   exact ia r _ hr ha h
theorem jK {env:Env} {x:Str}:∀(names:List (Str×NameKind)) (acc:List (Str×Addr)),(∃c,acc.lookup x=some c)→∃c,(dj env names acc).lookup x=some c
 | [],_,h=>h
 | (n,k)::r,acc,h=>by
  unfold dj
  by_cases hk:(k==NameKind.free)=true
  ·rw [if_pos hk]
   refine jK r _ ?_
   rw [List.lookup_cons]
   cases hx:x==n with
   | true=>exact ⟨_,rfl⟩
   | false=>exact h
  ·rw [if_neg hk]
   exact jK r _ h
theorem gF {env:Env} {x:Str}:∀(names:List (Str×NameKind)) (acc:List (Str×Addr)),(x,NameKind.free)∈names→∃c,(dj env names acc).lookup x=some c
 | [],_,h=>by cases h
 | (n,k)::r,acc,h=>by
  unfold dj
  rcases List.mem_cons.mp h with e | h'
  ·injection e with e1 e2
   subst e1 e2
   rw [if_pos (by rfl)]
   refine jK r _ ⟨(env.cells.lookup x).getD 0,?_⟩
   rw [List.lookup_cons,beq_self_eq_true]
  ·by_cases hk:(k==NameKind.free)=true
   ·rw [if_pos hk];exact gF r _ h'
   ·rw [if_neg hk];exact gF r _ h'
theorem dQ {env:Env}:∀{names:List (Str×NameKind)} {x:Str} {j:NameKind},
  (names.map fun (n,k)=>if (k==NameKind.free&&env.scope.kind==.function&&env.kindOf n==some .cell) then (n,NameKind.cell) else (n,k)).lookup x=some j→
  ∃k,names.lookup x=some k∧(j=k∨(k=.free∧j=.cell))
 | [],_,_,h=>by simp at h
 | (n,k)::r,x,j,h=>by
  have h':List.lookup x ((if (k==NameKind.free&&env.scope.kind==.function&&env.kindOf n==some .cell)=true then (n,NameKind.cell) else (n,k))::_)=some j:=h
  rw [List.lookup_cons]
  cases hx:x==n with
  | true=>
   refine ⟨k,rfl,?_⟩
   by_cases hc:(k==NameKind.free&&env.scope.kind==.function&&env.kindOf n==some .cell)=true
   ·rw [if_pos hc,List.lookup_cons,hx] at h'
    simp only [Bool.and_eq_true,beq_iff_eq] at hc
    exact .inr ⟨hc.1.1,(Option.some.inj h').symm⟩
   ·rw [if_neg hc,List.lookup_cons,hx] at h'
    exact .inl (Option.some.inj h').symm
  | false=>
   by_cases hc:(k==NameKind.free&&env.scope.kind==.function&&env.kindOf n==some .cell)=true
   ·rw [if_pos hc,List.lookup_cons,hx] at h'
    exact dQ h'
   ·rw [if_neg hc,List.lookup_cons,hx] at h'
    exact dQ h'
theorem dR {env:Env}:∀{names:List (Str×NameKind)} {x:Str},names.lookup x=some .free→
  (names.map fun (n,k)=>if (k==NameKind.free&&env.scope.kind==.function&&env.kindOf n==some .cell) then (n,NameKind.cell) else (n,k)).lookup x=some .cell∨
  (names.map fun (n,k)=>if (k==NameKind.free&&env.scope.kind==.function&&env.kindOf n==some .cell) then (n,NameKind.cell) else (n,k)).lookup x=some .free
 | [],_,h=>by simp at h
 | (n,k)::r,x,h=>by
  rw [List.map_cons]
  show List.lookup x ((if (k==NameKind.free&&env.scope.kind==.function&&env.kindOf n==some .cell)=true then (n,NameKind.cell) else (n,k))::_)=_∨List.lookup x ((if (k==NameKind.free&&env.scope.kind==.function&&env.kindOf n==some .cell)=true then (n,NameKind.cell) else (n,k))::_)=_
  rw [List.lookup_cons] at h
  cases hx:x==n with
  | true=>
   rw [hx] at h
   have hk:k=.free:=Option.some.inj h
   by_cases hc:(k==NameKind.free&&env.scope.kind==.function&&env.kindOf n==some .cell)=true
   ·rw [if_pos hc,List.lookup_cons,hx];exact .inl rfl
   ·rw [if_neg hc,List.lookup_cons,hx,hk];exact .inr rfl
  | false=>
   rw [hx] at h
   by_cases hc:(k==NameKind.free&&env.scope.kind==.function&&env.kindOf n==some .cell)=true
   ·rw [if_pos hc,List.lookup_cons,hx];exact dR h
   ·rw [if_neg hc,List.lookup_cons,hx];exact dR h
abbrev blk (X:Cx) (N':List Str) (scope:Scope) (C:Addr) (s₃:Shared) (H₃:Hp) (fp:List Addr) (pl:List (Addr×Obj)):Cx:=
 {X with N:=N',s₀:=s₃,H₀:=H₃,env:=compEnvC scope (dj X.env scope.names []) C X.env,outer:=X.stack,ex:=fp,fn:=fun _=>false,calm:=true,pn:=X.pn++pl,xe:=fun _ _=>False}
structure CompScope (X:Cx) (N':List Str) (caps:List (Option Nat)) (scope:Scope):Prop where
 kind:scope.kind=.function
 nocell:∀y∈scope.names,y.2≠.cell
 names:∀y∈scope.names,y.2=.local→scope.names.lookup y.1=some .local
 caught:∀y∈scope.names,y.2=.free→X.env.kindOf y.1=some .cell∨X.env.kindOf y.1=some .free
 len:caps.length=N'.length
 cap:∀(j i:Nat) (x:Str),caps[j]?=some (some i)→N'[j]?=some x→X.N[i]?=some x∧scope.names.lookup x=some .free
 nd:N'.Nodup
def ib (caps:List (Option Nat)) (σ:St):St:=caps.map fun o=>o.bind fun i=>(σ[i]?).join
section
variable {X:Cx} {N':List Str} {caps:List (Option Nat)} {scope:Scope} {pins:List (Addr×Obj)} {σ:St} {H:Hp} {s₃:Shared} {fp:List Addr}
theorem CompScope.has (S:CompScope X N' caps scope) (ok:X.Ok):∀y∈scope.names,y.2=.free→∃c,X.env.cells.lookup y.1=some c:=fun y hy e=>ok.has y.1 (S.caught y hy e)
theorem CompScope.look (S:CompScope X N' caps scope) (ok:X.Ok) {x:Str} {c:Addr} (h:(dj X.env scope.names []).lookup x=some c):X.env.cells.lookup x=some c:=
 ia scope.names [] (S.has ok) (fun _ z=>by simp at z) h
theorem Inv.block (S:CompScope X N' caps scope) (I:Inv X pins σ H s₃) (hc:X.calm=true) (hf:∀b∈fp,dm X pins H b) (hlt:∀b∈fp,b < s₃.heap.objs.size) {h₄:Heap} {t₄:Nat} {m₄:Str→Option Value}
  (hn:h₄.Ns s₃.heap.objs.size m₄) (hk:∀b o,s₃.heap.get? b=some o→h₄.get? b=some o):
  Inv (blk X N' scope s₃.heap.objs.size s₃ H fp pins) [] (ib caps σ) H {s₃ with heap:=h₄,toks:=t₄}:=by
 have ok:=I.ok
 have fresh:∀b o,s₃.heap.get? b=some o→b≠s₃.heap.objs.size:=fun b o e=>Nat.ne_of_lt (Heap.lt_size e)
 have cellOk:∀x c,(dj X.env scope.names []).lookup x=some c→∃v,s₃.heap.IsCell c v:=fun x c e=>I.cell x c (S.look ok e)
 refine ⟨⟨ok.mod,?_,ok.glob,ok.blt,Nat.le_refl _,?_,?_,?_,fun _=>ok.hd hc,ok.frames,.inl rfl,?_,I.bs,?_,?_,?_,I.stack,I.pR⟩,rfl,I.bare,Un.kept hk,?_,?_,I.hok.fresh (Nat.le_refl _),?_,?_,I.hok.kept hk,?_⟩
 ·show (relabel scope X.env).kind=.function
  exact S.kind
 ·intro x y c h1 h2
  exact ok.inj x y c (S.look ok h1) (S.look ok h2)
 ·intro x hx
  have hx':(relabel scope X.env).names.lookup x=some .cell∨(relabel scope X.env).names.lookup x=some .free:=hx
  have key:∀j,(relabel scope X.env).names.lookup x=some j→j=.cell∨j=.free→∃c,(dj X.env scope.names []).lookup x=some c:=by
   intro j hj hjk
   obtain ⟨k,hk1,hk2⟩:=dQ hj
   have hm:=PySem.mem_of_lookup hk1
   have hkf:k=.free:=by
    rcases hk2 with rfl | ⟨e,_⟩
    ·rcases hjk with rfl | e
     ·exact absurd rfl (S.nocell _ hm)
     ·exact e
    ·exact e
   subst hkf
   exact gF scope.names [] hm
  rcases hx' with h | h
  ·exact key _ h (.inl rfl)
  ·exact key _ h (.inr rfl)
 ·intro x c h _
  exact absurd (show false=true from h) (by decide)
 ·intro b hb
  refine ⟨Nat.ne_of_lt (hlt b hb),fun x c h=>(hf b hb).2.2.2.2.1 x c (S.look ok h)⟩
 ·exact Nat.le_trans ok.bsz I.sz
 ·intro b o e hb
  rcases (hf b hb).2.2.2.1 with z | z
  ·exact ok.noex b o e z
  ·exact absurd (Nat.lt_of_lt_of_le (Heap.lt_size e) ok.bsz) (Nat.not_lt.mpr z)
 ·intro b hb z
  rcases List.mem_cons.mp (I.gM b z) with e | e
  ·exact (hf b hb).2.1 e
  ·exact (hf b hb).2.2.1 e
 ·refine ⟨m₄,hn,fun j x v e1 e2 e3=>?_⟩
  have e2':(caps.map fun o=>o.bind fun i=>(σ[i]?).join)[j]?=some (some v):=e2
  rw [List.getElem?_map] at e2'
  cases hcj:caps[j]? with
  | none=>rw [hcj] at e2';cases e2'
  | some oi=>
   rw [hcj] at e2'
   have e2'':(oi.bind fun i=>(σ[i]?).join)=some v:=Option.some.inj e2'
   cases oi with
   | none=>cases e2''
   | some i=>
    have hσ:(σ[i]?).join=some v:=e2''
    have hσ':σ[i]?=some (some v):=by
     cases hs:σ[i]? with
     | none=>rw [hs] at hσ;cases hσ
     | some w=>rw [hs] at hσ;rw [show w=some v from hσ]
    obtain ⟨hX,hfr⟩:=S.cap j i x hcj e1
    obtain ⟨m,_,hl⟩:=I.loc
    have hcgt:=S.caught _ (PySem.mem_of_lookup hfr) rfl
    have hvis:Vis X.env.scope x:=by
     rcases hcgt with z | z
     ·exact .inr (.inl z)
     ·exact .inr (.inr z)
    obtain ⟨u,ru,lk⟩:=hl i x v hX hσ' hvis
    refine ⟨u,ru,.inr ⟨?_,?_⟩⟩
    ·exact dR hfr
    ·obtain ⟨c,hcc⟩:=gF (env:=X.env) scope.names [] (PySem.mem_of_lookup hfr)
     refine ⟨c,hcc,?_⟩
     rcases lk with ⟨z,_⟩ | ⟨_,c',hc',hcell⟩
     ·have z':X.env.kindOf x=some .local:=z
      rcases hcgt with q | q
      ·rw [z'] at q;cases q
      ·rw [z'] at q;cases q
     ·have:=S.look I.ok hcc
      rw [this] at hc'
      cases hc'
      obtain ⟨o,ho,hd⟩:=hcell
      exact ⟨o,hk _ _ ho,hd⟩
 ·intro x c h
  obtain ⟨v,o,ho,hd⟩:=cellOk x c h
  exact ⟨v,o,hk _ _ ho,hd⟩
 ·intro x c h
  exact I.freeC x c (S.look ok h)
 ·intro p hp
  have hp':p∈X.pn++pins:=by
   rcases List.mem_append.mp hp with z | z
   ·exact z
   ·cases z
  obtain ⟨e,n,ne,nf,d⟩:=I.pin p hp'
  refine ⟨hk _ _ e,n,fresh _ _ e,fun z=>?_,d⟩
  rcases List.mem_cons.mp (I.gM p.1 z) with q | q
  ·exact ne q
  ·exact nf q
 ·show (caps.map _).length=N'.length
  rw [List.length_map]
  exact S.len
theorem Inv.iM (S:CompScope X N' caps scope) (I:Inv X pins σ H s₃) (hf:∀b∈fp,dm X pins H b) {τ:St} {H':Hp} {s':Shared} (J:Inv (blk X N' scope s₃.heap.objs.size s₃ H fp pins) [] τ H' s') {h'':Heap}
  (hs:∀b u,b≠s₃.heap.objs.size→s'.heap.get? b=some u→h''.get? b=some u):Inv X pins σ H' {s' with heap:=h''}:=by
 have hC:H' s₃.heap.objs.size=none:=J.free
 have u:Un (frs X.stack) fp H H' s₃.heap h'':=by
  have b:=J.base
  have ne:∀x o,s₃.heap.get? x=some o→x≠s₃.heap.objs.size:=fun x o e=>Nat.ne_of_lt (Heap.lt_size e)
  refine ⟨fun x o e n hx hb=>hs _ _ (ne x o e) (b.keep x o e n hx hb),fun x o e n hx hb=>?_,b.free,fun x o e hb=>?_,b.tups,b.frzs,b.tbls⟩
  ·obtain ⟨sl,q⟩:=b.slot x o e n hx hb
   exact ⟨sl,hs _ _ (ne x o e) q⟩
  ·obtain ⟨o',q⟩:=b.there x o e hb
   exact ⟨o',hs _ _ (ne x o e) q⟩
 exact I.call' (s':={s' with heap:=h''}) (ch:=fp) J.os u (J.hok.off hC hs) J.bare fun b hb=>⟨(hf b hb).2.2.2.1,(hf b hb).2.1,(hf b hb).2.2.2.2.1,(hf b hb).2.2.2.2.2⟩
end
end L2
namespace L2
open PySem PySem.Spec PyProof.Rows
def PIf (X:Cx) (ifs:List Expr) (t:TT):Prop:=
 ∀(pins:List (Addr×Obj)) (s:Shared) (σ:St) (H:Hp) (Q:Bool→Hp→Prop),Inv X pins σ H s→t σ H Q→
  wpAny (model X.prog X.w) X.A (forIn ifs true fun c r=>if r=true then do let ok←isTrue c X.env (eval c X.env);pure (ForInStep.yield ok) else pure (ForInStep.yield r)) (TP X pins σ Q) X.xe s
def fF:TT:=fun _ H Q=>Q true H
theorem vV {X:Cx}:PIf X [] fF:=fun pins s σ H Q I h=>wpAny_tests_nil ⟨H,I,h⟩
theorem vU {X:Cx} {c:Expr} {t:TT} (h:PT X c t):PIf X [c] t:=fun pins s σ H Q I q=>wpAny_tests_one (h pins s σ H Q I q)
def AY (J:It) (g:TG) (tc:TT) (te:TE) (l:Addr) (Q:VK) (τ0:St) (H0:Hp):Prop:=
 ∃W:Nat→Nat→St→Hp→Prop,(∃m,W 0 m τ0 H0)∧∀i m τ H2,W i m τ H2→
  (J.stop i H2∧Q (.ref l) H2)∨(J.go i H2∧∃N:St→Hp→Prop,(∀τ' H',N τ' H'→∃m',m' < m∧W (i+1) m' τ' H')∧∀x H',J.yld i H2 x H'→g x τ H' fun τ2 H3=>
   tc τ2 H3 fun b H4=>if b=true then te τ2 H4 fun y H5=>∃xs,H5 l=some (.lst xs)∧xs.length < sizeLine∧N τ2 (upd H5 l (.lst (xs++[y]))) else N τ2 H4)
def wX (caps:List (Option Nat)) (wi:TI) (g:TG) (tc:TT) (te:TE):TE:=fun σ H Q=>wi σ H fun J H1=>∀l,H1 l=none→AY J g tc te l Q (ib caps σ) (upd H1 l (.lst []))
section
variable {X:Cx} {N':List Str} {caps:List (Option Nat)} {scope:Scope} {tg iter elt:Expr} {ifs:List Expr} {pos:Pos} {wi:TI} {g:TG} {tc:TT} {te:TE}
theorem upE {M:Model} {A:Around} {α:Type} {t:Sem α} {Q:α→Shared→Prop} {E:Value→Shared→Prop} {s:Shared} (h:wpAny M A t Q (fun _ _=>False) s):wpAny M A t Q E s:=wpAny_mono h (fun _ _ q=>q) fun _ _ f=>f.elim
theorem rY (S:CompScope X N' caps scope) (hc:X.calm=true) (hg:∀C s₃ H₃ fp pl,PG (blk X N' scope C s₃ H₃ fp pl) tg g) (hif:∀C s₃ H₃ fp pl,PIf (blk X N' scope C s₃ H₃ fp pl) ifs tc)
  (he:∀C s₃ H₃ fp pl,PE (blk X N' scope C s₃ H₃ fp pl) elt te) {pins:List (Addr×Obj)} {σ:St} {H3:Hp} {s3:Shared} {h₁:Heap} {t₁:Nat} {m₁:Str→Option Value} {it l:Addr} {fp:List Addr} {tn:Nat→Heap→Prop} {J:It}
  (I3:Inv X pins σ H3 s3) (T:Turn X.prog X.w X.K tg J fp it tn) (st3:tn 0 h₁) (hf3:∀b∈fp,dm X pins H3 b) (hlt3:∀b∈fp,b < s3.heap.objs.size) (hns₁:h₁.Ns s3.heap.objs.size m₁) (keep3:∀b o,s3.heap.get? b=some o→h₁.get? b=some o)
  {Q:VK} {RR:Value→Addr→Result→Shared→Prop} {W:Nat→Nat→St→Hp→Prop} {m0:Nat} (w0:W 0 m0 (ib caps σ) H3) (turn:∀i m τ H2,W i m τ H2→
   (J.stop i H2∧Q (.ref l) H2)∨(J.go i H2∧∃N:St→Hp→Prop,(∀τ' H',N τ' H'→∃m',m' < m∧W (i+1) m' τ' H')∧∀x H',J.yld i H2 x H'→g x τ H' fun τ2 H3=>
    tc τ2 H3 fun b H4=>if b=true then te τ2 H4 fun y H5=>∃xs,H5 l=some (.lst xs)∧xs.length < sizeLine∧N τ2 (upd H5 l (.lst (xs++[y]))) else N τ2 H4))
  (hRR:∀(l C:Addr) (H':Hp) (s':Shared),H' C=none→C≠X.env.locals→X.s₀.heap.objs.size≤C→(∀x c,X.env.cells.lookup x=some c→c≠C)→(∀p∈X.pn++pins,p.1≠C)→(∃m,s'.heap.Ns C m)→Inv X pins σ H' s'→
   (∀h'':Heap,(∀b u,b≠C→s'.heap.get? b=some u→h''.get? b=some u)→Inv X pins σ H' {s' with heap:=h''})→Q (.ref l) H'→RR (.ref l) C (.ok .next) s'):
  codeAny (model X.prog X.w) X.A (.compStart (.ListComp elt [⟨tg,iter,ifs,0⟩] scope pos) 0 (.ref it) (.ref l) (compEnvC scope (dj X.env scope.names []) s3.heap.objs.size X.env))
   (RR (.ref l) s3.heap.objs.size) {s3 with heap:=h₁,toks:=t₁}:=by
 have J0:Inv (blk X N' scope s3.heap.objs.size s3 H3 fp pins) [] (ib caps σ) H3 {s3 with heap:=h₁,toks:=t₁}:=Inv.block S I3 hc hf3 hlt3 hns₁ keep3
 have fpB:∀{H':Hp},(∀b∈fp,H' b=none)→∀b∈fp,dm (blk X N' scope s3.heap.objs.size s3 H3 fp pins) [] H' b:=fun {H'} hn b hb=>by
  obtain ⟨f0,f1,f2,f3,f4,f5⟩:=hf3 b hb
  refine ⟨hn b hb,Nat.ne_of_lt (hlt3 b hb),fun z=>?_,.inl hb,fun x c e=>f4 x c (S.look I3.ok e),fun p hp=>?_⟩
  ·rcases List.mem_cons.mp (I3.gM b z) with q | q
   ·exact f1 q
   ·exact f2 q
  ·rcases List.mem_append.mp hp with q | q
   ·exact f5 p q
   ·cases q
 have fin:∀{τ:St} {H':Hp} {s':Shared},Inv (blk X N' scope s3.heap.objs.size s3 H3 fp pins) [] τ H' s'→Q (.ref l) H'→RR (.ref l) s3.heap.objs.size (.ok .next) s':=fun {τ H' s'} J q=>by
  refine hRR _ _ H' s' J.free ?_ ?_ ?_ ?_ ?_ ?_ ?_ q
  ·exact (Nat.ne_of_lt I3.lt).symm
  ·exact I3.sz
  ·intro x c e z
   obtain ⟨v,o,ho,_⟩:=I3.cell x c e
   exact Nat.ne_of_lt (Heap.lt_size ho) z
  ·intro p hp z
   obtain ⟨e,_⟩:=I3.pin p hp
   exact Nat.ne_of_lt (Heap.lt_size e) z
  ·obtain ⟨m,hm,_⟩:=J.loc
   exact ⟨m,hm⟩
  ·have:=Inv.iM S I3 hf3 J (h'':=s'.heap) fun b u _ e=>e
   exact this
  ·exact fun h'' hs=>Inv.iM S I3 hf3 J hs
 have loop:codeAny (model X.prog X.w) X.A (.compLoop (.ListComp elt [⟨tg,iter,ifs,0⟩] scope pos) 0 (.ref it) (.ref l) (compEnvC scope (dj X.env scope.names []) s3.heap.objs.size X.env))
   (RR (.ref l) s3.heap.objs.size) {s3 with heap:=h₁,toks:=t₁}:=by
  refine codeAny_loop rfl (fun n s'=>∃i τ H',Inv (blk X N' scope s3.heap.objs.size s3 H3 fp pins) [] τ H' s'∧tn i s'.heap∧(∀b∈fp,H' b=none)∧W i n τ H') ?_ m0 ⟨0,_,_,J0,st3,fun b hb=>(hf3 b hb).1,w0⟩
  rintro n s4 ⟨i,τ,H4,J4,st4,fr4,w4⟩
  show wpAny _ X.A ((compTurn (.ListComp elt [⟨tg,iter,ifs,0⟩] scope pos) 0 (.ref it) (.ref l) (compEnvC scope (dj X.env scope.names []) s3.heap.objs.size X.env)).onRaise (fun x=>do noteFrame x (compEnvC scope (dj X.env scope.names []) s3.heap.objs.size X.env);theTreesLotGoes x)) _ _ s4
  refine wpAny_noted ?_
  rw [compTurn_list]
  rcases turn i n τ H4 w4 with ⟨stop,qn⟩ | ⟨go,N,hN,step⟩
  ·refine wpAny_bind (wpAny_standAt (wpAny_bind (wpAny_mono (T.done (blk X N' scope s3.heap.objs.size s3 H3 fp pins) rfl rfl rfl rfl i [] s4 τ H4 _ J4 (fpB fr4) st4 stop) (fun r s5 h5=>?_) fun _ _ e=>e)))
   obtain ⟨hr,J5⟩:=h5
   subst hr
   exact wpAny_pure (fin J5 qn)
  ·refine wpAny_bind (wpAny_standAt (wpAny_bind (wpAny_mono (T.item (blk X N' scope s3.heap.objs.size s3 H3 fp pins) rfl rfl rfl rfl i [] s4 τ H4 _ J4 (fpB fr4) st4 go) (fun r s5 h5=>?_) fun _ _ e=>e)))
   obtain ⟨u,hr,h5⟩:=h5
   subst hr
   refine wpAny_bind (wpAny_mono h5 (fun _ s6 h6=>?_) fun _ _ e=>e)
   obtain ⟨x,H6,J6,r6,y6,st6,fr6⟩:=h6
   have J6':=J6.pinned (fpB fr6) (T.obj _ _ st6)
   refine wpAny_bind (wpAny_mono (upE (hg _ _ _ _ _ _ s6 τ H6 x u _ J6' r6 (step x H6 y6))) (fun _ s7 h7=>?_) fun _ _ e=>e)
   obtain ⟨τ7,H7,J7,q7⟩:=h7
   have again:∀{τ8:St} {H8:Hp} {s8:Shared},Inv (blk X N' scope s3.heap.objs.size s3 H3 fp pins) ([]++gZ fp s6.heap) τ8 H8 s8→N τ8 H8→
     ∃m,m < n∧∃i τ' H',Inv (blk X N' scope s3.heap.objs.size s3 H3 fp pins) [] τ' H' s8∧tn i s8.heap∧(∀b∈fp,H' b=none)∧W i m τ' H':=fun {τ8 H8 s8} J8 n8=>by
    obtain ⟨m',hm,w8⟩:=hN τ8 H8 n8
    refine ⟨m',hm,i+1,τ8,H8,J8.eN,T.keep _ _ _ st6 fun b hb o e=>(J8.pin (b,o) (List.mem_append_right _ (List.mem_append_right _ (cm hb e)))).1,fun b hb=>?_,w8⟩
    obtain ⟨o,e,d⟩:=T.obj _ _ st6 b hb
    exact (J8.pin (b,o) (List.mem_append_right _ (List.mem_append_right _ (cm hb e)))).2.1
   refine wpAny_bind (wpAny_mono (upE (hif _ _ _ _ _ _ s7 τ7 H7 _ J7 q7)) (fun ok s8 h8=>?_) fun _ _ e=>e)
   obtain ⟨H8,J8,q8⟩:=h8
   cases ok with
   | false=>exact wpAny_pure ⟨rfl,again J8 (by simpa using q8)⟩
   | true=>
    have q8':te τ7 H8 fun y H5=>∃xs,H5 l=some (.lst xs)∧xs.length < sizeLine∧N τ7 (upd H5 l (.lst (xs++[y]))):=by simpa using q8
    refine wpAny_bind (wpAny_bind (wpAny_mono (upE (he _ _ _ _ _ _ s8 τ7 H8 _ J8 q8')) (fun y s9 h9=>?_) fun _ _ e=>e))
    obtain ⟨yv,H9,J9,r9,xs,hx,hz,n9⟩:=h9
    refine wpAny_bind (wpAny_mono (upE (kQ (X:=blk X N' scope s3.heap.objs.size s3 H3 fp pins) _ s9 τ7 H9 (.ref l) [yv] (.ref l) [y] (fun _ H'=>N τ7 H') J9 rfl (.cons r9 .nil) ⟨_,xs,yv,rfl,rfl,hx,hz,n9⟩)) (fun _ s10 h10=>?_) fun _ _ e=>e)
    obtain ⟨_,H10,J10,_,n10⟩:=h10
    exact wpAny_pure (wpAny_pure ⟨rfl,again J10 n10⟩)
 exact codeAny_compStart_list loop (T.self X.A 0 _ _ _ st3 loop)
theorem pB (S:CompScope X N' caps scope) (hc:X.calm=true) (hg:∀C s₃ H₃ fp pl,PG (blk X N' scope C s₃ H₃ fp pl) tg g) (hif:∀C s₃ H₃ fp pl,PIf (blk X N' scope C s₃ H₃ fp pl) ifs tc)
  (he:∀C s₃ H₃ fp pl,PE (blk X N' scope C s₃ H₃ fp pl) elt te) {pins:List (Addr×Obj)} {σ:St} {H:Hp} {s:Shared} {it:Addr} {fp:List Addr} {tn:Nat→Heap→Prop} {J:It}
  (I:Inv X pins σ H s) (T:Turn X.prog X.w X.K tg J fp it tn) (st:tn 0 s.heap) (hf:∀b∈fp,dm X pins H b) {Q:VK} {RR:Value→Addr→Result→Shared→Prop} {E:Value→Shared→Prop}
  (h:∀l,H l=none→∃W:Nat→Nat→St→Hp→Prop,(∃m,W 0 m (ib caps σ) (upd H l (.lst [])))∧∀i m τ H2,W i m τ H2→
   (J.stop i H2∧Q (.ref l) H2)∨(J.go i H2∧∃N:St→Hp→Prop,(∀τ' H',N τ' H'→∃m',m' < m∧W (i+1) m' τ' H')∧∀x H',J.yld i H2 x H'→g x τ H' fun τ2 H3=>
    tc τ2 H3 fun b H4=>if b=true then te τ2 H4 fun y H5=>∃xs,H5 l=some (.lst xs)∧xs.length < sizeLine∧N τ2 (upd H5 l (.lst (xs++[y]))) else N τ2 H4))
  (hRR:∀(l C:Addr) (H':Hp) (s':Shared),H' C=none→C≠X.env.locals→X.s₀.heap.objs.size≤C→(∀x c,X.env.cells.lookup x=some c→c≠C)→(∀p∈X.pn++pins,p.1≠C)→(∃m,s'.heap.Ns C m)→Inv X pins σ H' s'→
   (∀h'':Heap,(∀b u,b≠C→s'.heap.get? b=some u→h''.get? b=some u)→Inv X pins σ H' {s' with heap:=h''})→Q (.ref l) H'→RR (.ref l) C (.ok .next) s'):
  wpAny (model X.prog X.w) X.A (newList []) (fun acc s₃=>wpAny (model X.prog X.w) X.A (newFunctionEnv scope X.env.globals (dj X.env scope.names []) [] X.env.qual none .none (some X.env)) (fun cenv s₄=>
   codeAny (model X.prog X.w) X.A (.compStart (.ListComp elt [⟨tg,iter,ifs,0⟩] scope pos) 0 (.ref it) acc {cenv with scope:=relabel scope X.env}) (RR acc cenv.locals) s₄) E s₃) E s:=by
 obtain ⟨W,⟨m0,w0⟩,turn⟩:=h s.heap.objs.size I.fresh
 refine wpAny_newObj_type (wpAny_newFunctionEnv S.nocell (by intro y hy;simp at hy) (fun h₁ hns₁ hsb₁=>?_) S.kind)
 have I3:Inv X pins σ (upd H s.heap.objs.size (.lst [])) {s with heap:=s.heap.push {cls:=.type "list",data:=.seq ([]:List Value).toArray}}:=I.AF (t':=s.toks) (its:=[]) (ys:=[]) .nil (Nat.zero_le _)
 have hltf:∀b∈fp,b < s.heap.objs.size:=fun b hb=>by
  obtain ⟨o,e,_⟩:=T.obj 0 _ st b hb
  exact Heap.lt_size e
 have hf3:∀b∈fp,dm X pins (upd H s.heap.objs.size (.lst [])) b:=fun b hb=>⟨by rw [ai (Nat.ne_of_lt (hltf b hb))];exact (hf b hb).1,(hf b hb).2⟩
 have keep3:∀b o,(s.heap.push {cls:=.type "list",data:=.seq ([]:List Value).toArray}).get? b=some o→h₁.get? b=some o:=fun b o e=>hsb₁.extBut b o (Nat.ne_of_lt (Heap.lt_size e)) (Heap.get?_push_of_some _ e)
 have st3:tn 0 h₁:=T.keep 0 _ _ st fun b hb o e=>keep3 b o (Heap.get?_push_of_some _ e)
 have hlt3:∀b∈fp,b < (s.heap.push {cls:=.type "list",data:=.seq ([]:List Value).toArray}).objs.size:=fun b hb=>by
  have:=hltf b hb
  rw [Heap.size_push]
  exact Nat.lt_succ_of_lt this
 exact rY (s3:={s with heap:=s.heap.push {cls:=.type "list",data:=.seq ([]:List Value).toArray}}) S hc hg hif he I3 T st3 hf3 hlt3 hns₁ keep3 w0 turn hRR
theorem tP (S:CompScope X N' caps scope) (hc:X.calm=true) (hi:PI X tg iter wi) (hg:∀C s₃ H₃ fp pl,PG (blk X N' scope C s₃ H₃ fp pl) tg g) (hif:∀C s₃ H₃ fp pl,PIf (blk X N' scope C s₃ H₃ fp pl) ifs tc)
  (he:∀C s₃ H₃ fp pl,PE (blk X N' scope C s₃ H₃ fp pl) elt te) (hs:∀x,foldedSetIterable iter X.env x=pure x:=by intro _;rfl):PE X (.ListComp elt [⟨tg,iter,ifs,0⟩] scope pos) (wX caps wi g tc te):=by
 intro pins s σ H Q I h
 rw [eval_ListComp]
 refine wpAny_comprehension_free (use:=none) rfl hs (jJ (S.has I.ok)) S.kind S.names (thn (hi pins s σ H _ I h) fun v s1 h1=>thn h1 fun itv s2 h2=>?_)
 obtain ⟨it,fp,tn,J,H2,e,I2,T,st2,f2,hQ⟩:=h2
 subst e
 refine pB (RR:=fun acc C=>compPost (model X.prog X.w) X.A X.xe none (EP X pins σ Q) acc C) S hc hg hif he I2 T st2 f2 hQ ?_
 intro l C H' s' _ _ _ _ _ hm _ hI q
 obtain ⟨m,hm⟩:=hm
 exact ⟨m,hm,fun h'' hs''=>⟨.ref l,H',hI h'' fun b u hb e=>hs''.extBut b u hb e,rfl,q⟩⟩
end
end L2
namespace L2
open PySem PySem.Spec PyProof.Rows
def AZ (_ j:Int):Prop:=0 < j∧j≤10^40
theorem log2_small {n:Nat} (h:n≤10^40):n.log2 < 9000:=by
 by_cases h0:n=0
 ·rw [h0];decide
 ·refine (Nat.log2_lt h0).mpr (Nat.lt_of_le_of_lt h ?_)
  exact Nat.lt_of_lt_of_le (show 10^40 < 2^200 by decide) (Nat.pow_le_pow_right (by decide) (by decide))
section
variable {X:Cx}
theorem tV:OpR X (binaryOp .FloorDiv) (rI AZ fun i j=>.int (i / j)):=opI fun i j _ _ _ _ _ hc q=>by
 have h1:(0:Int) < j:=hc.1
 have h2:j≤10^40:=hc.2
 exact floordiv_int (by omega) (by rw [Int.fdiv_eq_ediv_of_nonneg i (by omega)];exact q) (.inl (PyProof.noPylong_of_log2 (log2_small (by omega))))
mutual
inductive Rds (K:PySem.W.Frag) (H:Hp):V→PyData→Prop where
 | non:Rds K H .non .none
 | bl (b:Bool):Rds K H (.bl b) (.bool b)
 | int (i:Int):Rds K H (.int i) (.int i)
 | str (x:Str):Rds K H (.str x) (.str x)
 | tup {a:Addr} {xs:List V} {ds:List PyData}:SqT K H a xs→RdsL K H xs ds→Rds K H (.ref a) (.tuple ds)
 | lst {a:Addr} {xs:List V} {ds:List PyData}:SqL K H a xs→RdsL K H xs ds→Rds K H (.ref a) (.list ds)
inductive RdsL (K:PySem.W.Frag) (H:Hp):List V→List PyData→Prop where
 | nil:RdsL K H [] []
 | cons {x:V} {xs:List V} {d:PyData} {ds:List PyData}:Rds K H x d→RdsL K H xs ds→RdsL K H (x::xs) (d::ds)
end
variable {pins:List (Addr×Obj)} {σ:St} {H:Hp} {s:Shared}
mutual
theorem Rds.reads (I:Inv X pins σ H s):∀{x:V} {u:Value} {d:PyData},Rds X.K H x d→RelV x u→∃as,Reads s.heap u d as
 | _,_,_,.non,r=>by cases (show _=Value.none from r);exact ⟨_,.none⟩
 | _,_,_,.bl b,r=>by cases (show _=Value.bool b from r);exact ⟨_,.bool b⟩
 | _,_,_,.int i,r=>by obtain ⟨t,e⟩:=(show ∃t,_=Value.int i t from r);cases e;exact ⟨_,.int i t⟩
 | _,_,_,.str x,r=>by obtain ⟨t,e⟩:=(show ∃t,_=Value.str x t from r);cases e;exact ⟨_,.str x t⟩
 | _,_,_,.tup (a:=a) hq hl,r=>by
  cases (show _=Value.ref a from r)
  obtain ⟨its,rv,⟨o,h1,h2,n,h3⟩,_⟩:=I.tuple hq
  obtain ⟨as,q⟩:=RdsL.reads I hl rv
  exact ⟨_,.tuple h1 h2 h3 (by simpa using q)⟩
 | _,_,_,.lst (a:=a) hq hl,r=>by
  cases (show _=Value.ref a from r)
  obtain ⟨its,rv,pl,_⟩:=I.list hq
  obtain ⟨o,h1,h2,n,h3⟩:=pl.isList
  obtain ⟨as,q⟩:=RdsL.reads I hl rv
  exact ⟨_,.list h1 h2 h3 (by simpa using q)⟩
theorem RdsL.reads (I:Inv X pins σ H s):∀{xs:List V} {us:List Value} {ds:List PyData},RdsL X.K H xs ds→Vals xs us→∃as,ReadsAll s.heap us ds as
 | _,_,_,.nil,.nil=>⟨_,.nil⟩
 | _,_,_,.cons h t,.cons r q=>by
  obtain ⟨as,p⟩:=Rds.reads I h r
  obtain ⟨bs,p'⟩:=RdsL.reads I t q
  exact ⟨_,.cons p p'⟩
end
def By:V→Option Int→Option Int→Hp→VK→Prop:=fun x lo hi H Q=>∃z,x=.str z∧z.length≤sizeLine∧Q (.str (Txt.slice z lo hi)) H
theorem xK:SlR X By:=by
 intro pins s σ H x v vl vu lo hi sl Q I rx hs pl pu h
 obtain ⟨z,rfl,hz,q⟩:=h
 obtain ⟨t,rfl⟩:=(show ∃t,v=Value.str z t from rx)
 refine ⟨"str",_,F.slot_str_getitem.lookup,typeIs_str _ _ _,?_⟩
 obtain ⟨o,h1,h2,h3⟩:=hs
 have fin:(Txt.slice z lo hi).length≤sizeLine∧∀t' k,EP X pins σ Q (.str (Txt.slice z lo hi) t') {s with toks:=k}:=⟨Nat.le_trans (Txt.slice_le z _ _) hz,fun t' k=>⟨.str _,H,I.tok k,⟨t',rfl⟩,q⟩⟩
 cases pl with
 | none=>
  cases pu with
  | none=>exact wpAny_getItem_str_slice (l:=none) (u:=none) (st:=none) ⟨o,h1,h2,h3⟩ rfl (post_val_or_str fin)
  | int j uj=>exact wpAny_getItem_str_slice (l:=none) (u:=some (j,uj)) (st:=none) ⟨o,h1,h2,h3⟩ rfl (post_val_or_str fin)
 | int i ui=>
  cases pu with
  | none=>exact wpAny_getItem_str_slice (l:=some (i,ui)) (u:=none) (st:=none) ⟨o,h1,h2,h3⟩ rfl (post_val_or_str fin)
  | int j uj=>exact wpAny_getItem_str_slice (l:=some (i,ui)) (u:=some (j,uj)) (st:=none) ⟨o,h1,h2,h3⟩ rfl (post_val_or_str fin)
theorem uM:cJ X (.builtin "isinstance") (fun xs H Q=>∃x n t b,xs=[x,.ty n]∧TyOf X.K H x t∧PySem.W.kitOne X.K t (.type n)=some b∧Q (.bl b) H):=by
 intro pins s σ H xs us Q I r h
 obtain ⟨x,n,t,b,rfl,ty,e,q⟩:=h
 obtain ⟨u,w',rfl,ru,rw'⟩:=vals2 r
 cases (show w'=Value.type n from rw')
 exact rN I ru ty e fun tk=>⟨.bl b,H,I.tok tk,rfl,q⟩
end
end L2
namespace L2
open PySem PySem.Spec PyProof.Rows
theorem mj:typeLookup (.type "list") "keys"=pure none:=by rw [typeLookup_type,builtinLookup_eq_fast];kernel_rfl
theorem yK {prog:Program} {w:World} {A:Around} {E:Value→Shared→Prop} {s:Shared} {a:Addr} {xs:Array Value} {k:Nat} {Q:Option Value→Shared→Prop}
  (hx:s.heap.get? a=some {cls:=.type "list",data:=.seq xs k}) (hA:A.handled=none)
  (h:∀h' tk,(∀b o,s.heap.get? b=some o→h'.get? b=some o)→Q none {s with heap:=h',toks:=tk}):
  wpAny (model prog w) A (getAttr? (.ref a) "keys") Q E s:=by
 obtain ⟨hp,g,d,tk,os⟩:=s
 have hT:∀tk',(⟨hp,g,d,tk',os⟩:Shared).TypeIs (.ref a) "list":=fun _=>⟨_,hx,rfl⟩
 have f1:=sub_AttributeError
 have f3:=F.slot_list_getattribute.lookup
 have f4:=F.slot_list_getattribute.bind (.ref a)
 have f5:=am_list_getattr_none
 unfold getAttr? getAttrBy? getAttrBy
 repeat (any_goals (first | assumption | exact hT _ | ((with_reducible show wpAny _ _ (call (Value.builtin "list.__getattribute__") _ _) _ _ _);refine call_meets F.slot_list_getattribute (hT _) am_entry_list_getattribute (F.args_list_getattribute_2 _ _) (meets_getattribute_miss_list a xs k #[] "keys" _ mj (by decide+kernel) (by decide)) ⟨hx,hA,fun h' tk' e hx'=>?_⟩) | wp_step))
 obtain ⟨t',u',he⟩:=hx'.there
 have hE:∀tk',(⟨h',g,d,tk',os⟩:Shared).TypeIs (.ref e) "AttributeError":=fun _=>⟨_,he,rfl⟩
 show wpAny _ _ (getattributeRaised _ _ _ _ _ _ _) _ _ _
 unfold getattributeRaised
 repeat (any_goals (first | assumption | exact hE _ | wp_step))
 exact h _ _ hx'.keeps
end L2
namespace L2
open PySem PySem.Spec PyProof.Rows
theorem bU:entryFor table "dict.update.loop"=some Builtin.«dict.update.loop»:=entryFor_of_tree (by kernel_rfl)
theorem aM:plainId "dict.update.loop"=true:=by decide+kernel
abbrev gI (K:PySem.W.Frag) (H:Hp):List V→List (Key×V)→Prop:=Paired fun y kv=>∃a,y=.ref a∧SqT K H a [kV kv.1,kv.2]
theorem Paired.at {α β:Type} {F:α→β→Prop}:∀{l₁:List α} {l₂:List β} {i:Nat} {x:α},Paired F l₁ l₂→l₁[i]?=some x→∃y,l₂[i]?=some y∧F x y
 | _,_,_,_,.nil,e=>by simp at e
 | _,_,0,_,.cons r _,e=>by simp at e;subst e;exact ⟨_,rfl,r⟩
 | _,_,i+1,x,.cons _ t,e=>by
  obtain ⟨y,h1,h2⟩:=Paired.at (i:=i) t (by simpa using e)
  exact ⟨y,by simpa using h1,h2⟩
section
variable {X:Cx}
theorem ix (kvs more:List (Key×V)) (p:Key×V):aC kvs (more++[p])=putK (aC kvs more) p.1 p.2:=by
 unfold aC
 rw [List.foldl_append]
 rfl
theorem rX {A:Around} {pins:List (Addr×Obj)} {σ:St} {H:Hp} {p d it:Addr} {ys:List V} {kvs:List (Key×V)} {R:Result→Shared→Prop} (hA:A.handled=none) (hp:H p=some (.lst ys)) (hr:gI X.K H ys kvs) (hl:ys.length≤1000000) (hd:H d=none)
  (hit:it≠X.env.locals∧(it∈X.ex∨X.s₀.heap.objs.size≤it)∧(∀x c,X.env.cells.lookup x=some c→c≠it)∧∀q∈X.pn++pins,q.1≠it) (hin:H it=none) (hid:it≠d)
  (h:∀s',Inv X pins σ (upd H d (.dK (aC [] kvs))) s'→R (.ok (.ret .none)) s'):∀(n i:Nat) (s:Shared),kvs.length-i=n→i≤kvs.length→s.heap.IsListIter it p i→Inv X pins σ (upd H d (.dK (aC [] (kvs.take i)))) s→
   codeAny (model X.prog X.w) A (.builtin "dict.update.loop" ⟨[.ref d,.ref it,rawInt i,.none],[]⟩) R s:=by
 have hlen:=Paired.length hr
 have npd:p≠d:=ax hp hd
 have hsz:sizeLine≥1000001:=by decide
 intro n
 induction n with
 | zero=>
  intro i s hn hi st I
  have ei:i=kvs.length:=by omega
  refine codeAny_builtin bU ?_
  rw [Around.under_plainId aM _]
  have hq:SqL X.K (upd H d (.dK (aC [] (kvs.take i)))) p ys:=SqL.of (by rw [ai npd];exact hp)
  obtain ⟨its,rv,pl,hz⟩:=I.list hq
  have hl':=rv.length
  show wpAny _ _ (pyNext (.ref it) >>=_) _ _ s
  refine wpAny_bind (wpAny_pyNext_list_end hA st pl.isList (by simp;omega) fun h' eb=>?_)
  show wpAny _ _ (Builtin.Dict.addKeywords d [] >>=fun _=>ret .none) _ _ _
  have I':=I.turned (t':=s.toks) (h':=h') (it:=it) (fun b o hb e=>eb b o hb e) (by rw [ai hid];exact hin) hit.1 hit.2.1 hit.2.2.1 hit.2.2.2
  refine wpAny_bind (wpAny_pure (wpAny_pure ?_))
  rw [ei,List.take_length] at I'
  exact h _ I'
 | succ n ih=>
  intro i s hn hi st I
  have hi':i < kvs.length:=by omega
  refine codeAny_builtin bU ?_
  rw [Around.under_plainId aM _]
  have hq:SqL X.K (upd H d (.dK (aC [] (kvs.take i)))) p ys:=SqL.of (by rw [ai npd];exact hp)
  obtain ⟨its,rv,pl,hz⟩:=I.list hq
  have hyi:ys[i]?=some (ys[i]'(by omega)):=List.getElem?_eq_getElem _
  generalize ys[i]'(by omega)=y at hyi
  obtain ⟨u,hu,ru⟩:=rv.get hyi
  obtain ⟨kv,hk,a,ea,hta⟩:=Paired.at hr hyi
  subst ea
  cases (show u=Value.ref a from ru)
  show wpAny _ _ (pyNext (.ref it) >>=_) _ _ s
  refine wpAny_bind (wpAny_pyNext_list_item st pl.isList (x:=.ref a) (by simpa using hu) fun h' st' sb=>?_)
  have I':=I.turned (t':=s.toks) (h':=h') (it:=it) (fun b o hb e=>(sb.2 b hb).trans e) (by rw [ai hid];exact hin) hit.1 hit.2.1 hit.2.2.1 hit.2.2.2
  have hta':SqT X.K (upd H d (.dK (aC [] (kvs.take i)))) a [kV kv.1,kv.2]:=by
   rcases hta with hta | hta
   ·rcases hta with hta | ⟨o,hta⟩
    ·exact .inl (.inl (by rw [ai (ax hta hd)];exact hta))
    ·exact .inl (.inr ⟨o,by rw [ai (ax hta hd)];exact hta⟩)
   ·exact .inr hta
  obtain ⟨its2,rv2,pt,hz2⟩:=I'.tuple hta'
  obtain ⟨ku,vu,rfl,rk,rw2⟩:=vals2 rv2
  obtain ⟨ot,ht1,ht2,nt,ht3⟩:=id pt
  dsimp only
  refine wpAny_bind (wpAny_holding ?_)
  refine wpAny_bind (wpAny_tryCatch ?_)
  unfold Builtin.Dict.pairItems
  refine wpAny_bind (wpAny_typeOf pt.typeIs ?_)
  rw [if_pos (by decide)]
  refine wpAny_bind (wpAny_seqItems ht1 ht3 (wpAny_pure ?_))
  show wpAny _ _ (holding [ku,vu] (dictSet d ku vu)) _ _ _
  refine wpAny_holding ?_
  have ed:upd H d (.dK (aC [] (kvs.take i))) d=some (.dK (aC [] (kvs.take i))):=ar
  obtain ⟨z,hdm,vs,rel,dd⟩:=fc I'.hok ed
  have hz3:vs.length≤sizeLine:=by rw [←rel.length];exact z
  unfold dictSet
  refine wpAny_holding (wpAny_bind ((au X.prog X.w).pyHash (cX rk) ?_))
  refine wpAny_dictSetHashed_pairs (hsz:=hz3) (cX rk) dd fun h2 dd' hs=>?_
  have he:∃q,h2.get? d=some q:=let ⟨q,_,_,hq,_⟩:=dd';⟨q,hq⟩
  have e2:putK (aC [] (kvs.take i)) kv.1 kv.2=aC [] (kvs.take (i+1)):=by
   rw [List.take_succ,hk,←ix]
   rfl
  have hl2:(putK (aC [] (kvs.take i)) kv.1 kv.2).length≤sizeLine:=by
   rw [e2]
   have:=cy (kvs.take (i+1)) []
   rw [List.length_take] at this
   simp only [List.length_nil] at this
   omega
  have I2:=cZ (t':=s.toks+1) I' (by rw [ed];exact True.intro) hs he (hZ (H':=upd (upd H d (.dK (aC [] (kvs.take i)))) d (.dK (putK (aC [] (kvs.take i)) kv.1 kv.2))) hl2 hdm (rel.put kv.1 rw2) dd')
  rw [gd,e2] at I2
  have hc:((i:Int)+1)=((i+1:Nat):Int):=by push_cast;rfl
  rw [hc]
  refine wpAny_pure ⟨plainId_quiet aM _,ih (i+1) _ (by omega) (by omega) ?_ I2⟩
  obtain ⟨oi,e1,e2,e3⟩:=st'
  exact ⟨oi,hs.extBut _ _ hid e1,e2,e3⟩
theorem jN (hc:X.calm=true):cJ X (.type "dict") (fun xs H Q=>∃p ys kvs,xs=[.ref p]∧H p=some (.lst ys)∧gI X.K H ys kvs∧ys.length≤1000000∧∀q,H q=none→Q (.ref q) (upd H q (.dK (aC [] kvs)))):=by
 intro pins s σ H xs us Q I r h
 obtain ⟨p,ys,kvs,rfl,hp,hr,hl,q⟩:=h
 obtain ⟨u,rfl,ru⟩:=vals1 r
 cases (show u=Value.ref p from ru)
 refine callType_codes (Q₁:=fun obj s₁=>obj=.ref s.heap.objs.size∧s₁={s with heap:=s.heap.push {cls:=.type "dict",data:=.dict #[]}}) F.kt_called_dict (F.kt_typeCall_dict_1 _) F.entry_dict_init (kt_code_dict_new _ ⟨rfl,rfl⟩) ?_
 rintro obj s₁ ⟨rfl,rfl⟩
 have hd:H s.heap.objs.size=none:=I.fresh
 have hnew:(s.heap.push {cls:=.type "dict",data:=.dict #[]}).DictOf (au X.prog X.w) s.heap.objs.size []:=Heap.DictOf.new s.heap
 have I1:Inv X pins σ (upd H s.heap.objs.size (.dK [])) {s with heap:=s.heap.push {cls:=.type "dict",data:=.dict #[]}}:=I.laid (t':=s.toks) (fun _ _ q=>Heap.get?_push_of_some _ q) (Nat.le_refl _) (fe s.heap I.big)
 have npd:p≠s.heap.objs.size:=ax hp hd
 refine ⟨hnew.typeIs,F.args_dict_init_2 _ _,?_⟩
 obtain ⟨hz,its,n,rv,hx⟩:=I1.hok p _ (show upd H s.heap.objs.size (.dK []) p=some (.lst ys) by rw [ai npd];exact hp)
 have hA:X.A.handled=none:=I.ok.hd hc
 unfold Builtin.«dict.__init__»
 refine wpAny_bind ?_
 unfold Builtin.Dict.selfAndRest
 refine wpAny_bind (wpAny_notOrdered_dict hnew.typeIs ?_)
 show wpAny _ _ (pure (s.heap.objs.size,[Value.ref p])) _ _ _
 refine wpAny_pure ?_
 show wpAny _ _ (Builtin.Dict.updateFrom "dict.__init__" s.heap.objs.size (.ref p) [] .none) _ _ _
 unfold Builtin.Dict.updateFrom
 refine wpAny_bind (wpAny_typeOf (T:="list") ⟨_,hx,rfl⟩ ?_)
 rw [if_pos (by decide)]
 refine wpAny_bind (yK hx (by exact hA) fun h2 tk keep=>?_)
 have I2:=I1.kept (t':=tk) keep
 have hx2:=keep _ _ hx
 have hil:h2.IsList p its.toArray:=⟨_,hx2,rfl,_,rfl⟩
 simp only [Option.isNone_none,if_true]
 refine wpAny_bind (wpAny_rule (wpAny_bind (wpAny_pyIter_list hil ?_)))
 have I3:Inv X pins σ (upd H s.heap.objs.size (.dK [])) {s with heap:=h2.push {cls:=.type "list_iterator",data:=.fields #[.ref p,.int 0 0]},toks:=tk}:=I2.kept (t':=tk) fun b o e=>Heap.get?_push_of_some _ e
 have hfp:=I2.kd (b:=h2.objs.size) (H':=upd H s.heap.objs.size (.dK [])) (Nat.le_refl _) (I2.hok.fresh (Nat.le_refl _))
 obtain ⟨f0,f1,f2,f3,f4,f5⟩:=hfp
 have hne:h2.objs.size≠s.heap.objs.size:=by
  intro z
  rw [z,ar] at f0
  cases f0
 have hin:H h2.objs.size=none:=by rw [ai hne] at f0;exact f0
 refine wpAny_pure ⟨plainId_quiet aM _,?_⟩
 exact rX (X:=X) (σ:=σ) (H:=H) (kvs:=kvs) (by exact hA) hp hr hl hd ⟨f1,f3,f4,f5⟩ hin hne (fun s' I'=>⟨rfl,⟨.ref _,_,I',rfl,q _ hd⟩⟩) kvs.length 0 _ (by omega) (Nat.zero_le _) ⟨_,Heap.get?_push_size _ rfl,rfl,rfl⟩ I3
end
end L2
namespace L2
open PySem PySem.Spec PyProof.Rows
section
variable {g:TG} {tc:TT} {te:TE} {l:Addr} {Q:VK} {τ0:St} {H0:Hp}
end
end L2
namespace L2
open PySem PySem.Spec PyProof.Rows
def nS (out:List (Str×NameKind)) (N N':List Str) (caps:List (Option Nat)) (scope:Scope):Bool:=
 decide (scope.kind=.function)&&scope.names.all (fun y=>decide (y.2≠.cell))&&scope.names.all (fun y=>!decide (y.2=.local)||decide (scope.names.lookup y.1=some .local))&&
 scope.names.all (fun y=>!decide (y.2=.free)||decide (out.lookup y.1=some .cell)||decide (out.lookup y.1=some .free))&&decide (caps.length=N'.length)&&
 (List.range caps.length).all (fun j=>match caps[j]?,N'[j]? with
  | some (some i),some x=>decide (N[i]?=some x)&&decide (scope.names.lookup x=some .free)
  | _,_=>true)&&decide N'.Nodup
theorem bZ {X:Cx} {N':List Str} {caps:List (Option Nat)} {scope:Scope} (h:nS X.env.scope.names X.N N' caps scope=true):CompScope X N' caps scope:=by
 unfold nS at h
 simp only [Bool.and_eq_true,decide_eq_true_eq,List.all_eq_true,Bool.or_eq_true,Bool.not_eq_true',decide_eq_false_iff_not] at h
 obtain ⟨⟨⟨⟨⟨⟨h1,h2⟩,h3⟩,h4⟩,h5⟩,h6⟩,h7⟩:=h
 refine ⟨h1,h2,fun y hy e=>?_,fun y hy e=>?_,h5,fun j i x hj hx=>?_,h7⟩
 ·rcases h3 y hy with z | z
  ·exact absurd e z
  ·exact z
 ·rcases h4 y hy with (z | z) | z
  ·exact absurd e z
  ·exact .inl z
  ·exact .inr z
 ·have hlt:j < caps.length:=(List.getElem?_eq_some_iff.mp hj).1
  have:=h6 j (List.mem_range.mpr hlt)
  rw [hj,hx] at this
  simp only [Bool.and_eq_true,decide_eq_true_eq] at this
  exact this
end L2
namespace L2
end L2
namespace L2
open PySem PySem.Spec PyProof.Rows
theorem fj {x:Str}:PyData.strOk x=true↔∀c∈x.cps,c < 0x110000:=by
 unfold PyData.strOk
 rw [Array.all_eq_true_iff_forall_mem]
 simp
theorem qN {a b:Str} (ha:PyData.strOk a=true) (hb:PyData.strOk b=true):PyData.strOk (a++b)=true:=by
 rw [fj] at*
 intro c hc
 have hc':c∈a.cps++b.cps:=hc
 rcases Array.mem_append.mp hc' with z | z
 ·exact ha c z
 ·exact hb c z
theorem mX {x:Str} (l u:Option Int) (h:PyData.strOk x=true):PyData.strOk (Txt.slice x l u)=true:=by
 unfold Txt.slice
 split
 ·exact h
 ·rw [fj] at*
  intro c hc
  have hc':c∈(List.filterMap (x.cps[·]?) (Builtin.Str.strSliceIndices l u 1 x.length)).toArray:=hc
  rw [List.mem_toArray] at hc'
  obtain ⟨i,_,e⟩:=List.mem_filterMap.mp hc'
  exact h c (Array.mem_of_getElem? e)
theorem qM {z:Str} {c:Nat} {i:Int} (h:PyData.strOk z=true) (hc:atI z.cps.toList i=some c):PyData.strOk (⟨#[c]⟩:Str)=true:=by
 rw [fj] at*
 intro d hd
 have e:d=c:=by simpa using hd
 subst e
 obtain ⟨j,_,hj,_⟩:=iS hc
 exact h d (by have:=List.mem_of_getElem? hj;simpa using this)
end L2
namespace L2
open PySem PySem.Spec PyProof.Rows
theorem entry_all_loop:entryFor table "all.loop"=some Builtin.«all.loop»:=entryFor_of_tree (by kernel_rfl)
theorem plain_all_loop:plainId "all.loop"=true:=by decide+kernel
section
variable {X:Cx}
theorem uX {A:Around} {pins:List (Addr×Obj)} {σ:St} {H:Hp} {p it:Addr} {bs:List Bool} {R:Result→Shared→Prop} (hA:A.handled=none) (hp:SqL X.K H p (bs.map V.bl))
  (hit:it≠X.env.locals∧(it∈X.ex∨X.s₀.heap.objs.size≤it)∧(∀x c,X.env.cells.lookup x=some c→c≠it)∧∀q∈X.pn++pins,q.1≠it) (hin:H it=none)
  (h:∀s',Inv X pins σ H s'→R (.ok (.ret (.bool (bs.all id)))) s'):∀(n i:Nat) (s:Shared),bs.length-i=n→i≤bs.length→(bs.take i).all id=true→s.heap.IsListIter it p i→Inv X pins σ H s→
   codeAny (model X.prog X.w) A (.builtin "all.loop" ⟨[.ref it],[]⟩) R s:=by
 intro n
 induction n with
 | zero=>
  intro i s hn hi ht st I
  have ei:i=bs.length:=by omega
  refine codeAny_builtin entry_all_loop ?_
  rw [Around.under_plainId plain_all_loop _]
  obtain ⟨its,rv,pl,hz⟩:=I.list hp
  have hl':=rv.length
  rw [List.length_map] at hl'
  show wpAny _ _ (pyNext (.ref it) >>=_) _ _ s
  refine wpAny_bind (wpAny_pyNext_list_end hA st pl.isList (by simp;omega) fun h' eb=>?_)
  have I':=I.turned (t':=s.toks) (h':=h') (it:=it) (fun b o hb e=>eb b o hb e) hin hit.1 hit.2.1 hit.2.2.1 hit.2.2.2
  refine wpAny_bind (wpAny_rule (wpAny_pure ?_))
  rw [ei,List.take_length] at ht
  have:=h _ I'
  rw [ht] at this
  exact this
 | succ n ih=>
  intro i s hn hi ht st I
  have hi':i < bs.length:=by omega
  refine codeAny_builtin entry_all_loop ?_
  rw [Around.under_plainId plain_all_loop _]
  obtain ⟨its,rv,pl,hz⟩:=I.list hp
  have hyi:(bs.map V.bl)[i]?=some (.bl bs[i]):=by rw [List.getElem?_map,List.getElem?_eq_getElem hi'];rfl
  obtain ⟨u,hu,ru⟩:=rv.get hyi
  cases (show u=Value.bool bs[i] from ru)
  show wpAny _ _ (pyNext (.ref it) >>=_) _ _ s
  refine wpAny_bind (wpAny_pyNext_list_item st pl.isList (x:=.bool bs[i]) (by simpa using hu) fun h' st' sb=>?_)
  have I':=I.turned (t':=s.toks) (h':=h') (it:=it) (fun b o hb e=>(sb.2 b hb).trans e) hin hit.1 hit.2.1 hit.2.2.1 hit.2.2.2
  dsimp only
  refine wpAny_bind (wpAny_holding (wpAny_truthy_bool ?_))
  refine wpAny_bind (wpAny_letGo ?_)
  by_cases hb:bs[i]=true
  ·rw [if_pos hb]
   refine wpAny_pure ⟨plainId_quiet plain_all_loop _,ih (i+1) _ (by omega) (by omega) ?_ st' I'⟩
   rw [List.take_succ,List.getElem?_eq_getElem hi',List.all_append,ht,hb]
   rfl
  ·rw [if_neg hb]
   refine wpAny_bind (wpAny_rule (wpAny_pure ?_))
   have:=h _ I'
   have e:bs.all id=false:=by
    rw [List.all_eq_false]
    exact ⟨bs[i],List.getElem_mem hi',by simpa using hb⟩
   rw [e] at this
   exact this
theorem uO (hc:X.calm=true):cJ X (.builtin "all") (fun xs H Q=>∃(p:Addr) (bs:List Bool),xs=[.ref p]∧SqL X.K H p (bs.map V.bl)∧Q (.bl (bs.all id)) H):=by
 intro pins s σ H xs us Q I r h
 obtain ⟨p,bs,rfl,hp,q⟩:=h
 obtain ⟨u,rfl,ru⟩:=vals1 r
 cases (show u=Value.ref p from ru)
 have hA:X.A.handled=none:=I.ok.hd hc
 obtain ⟨its,rv,pl,hz⟩:=I.list hp
 refine call_function_tree F.kind_all F.plain_all F.entry_all (F.args_all1 _) ?_
 unfold Builtin.«all»
 show wpAny _ _ (pyIter (.ref p) >>=_) _ _ s
 refine wpAny_bind (wpAny_pyIter_list pl.isList ?_)
 have I3:Inv X pins σ H {s with heap:=s.heap.push {cls:=.type "list_iterator",data:=.fields #[.ref p,.int 0 0]}}:=I.kept (t':=s.toks) fun b o e=>Heap.get?_push_of_some _ e
 obtain ⟨f0,f1,f2,f3,f4,f5⟩:=I.kd (b:=s.heap.objs.size) (H':=H) (Nat.le_refl _) (I.hok.fresh (Nat.le_refl _))
 refine wpAny_pure ⟨plainId_quiet plain_all_loop _,?_⟩
 exact uX (X:=X) (σ:=σ) (H:=H) (by exact hA) hp ⟨f1,f3,f4,f5⟩ f0 (fun s' I'=>⟨.bl _,H,I',rfl,q⟩) bs.length 0 _ (by omega) (Nat.zero_le _) rfl ⟨_,Heap.get?_push_size _ rfl,rfl,rfl⟩ I3
end
theorem entry_any_loop:entryFor table "any.loop"=some Builtin.«any.loop»:=entryFor_of_tree (by kernel_rfl)
theorem plain_any_loop:plainId "any.loop"=true:=by decide+kernel
section
variable {X:Cx}
theorem uW {A:Around} {pins:List (Addr×Obj)} {σ:St} {H:Hp} {p it:Addr} {bs:List Bool} {R:Result→Shared→Prop} (hA:A.handled=none) (hp:SqL X.K H p (bs.map V.bl))
  (hit:it≠X.env.locals∧(it∈X.ex∨X.s₀.heap.objs.size≤it)∧(∀x c,X.env.cells.lookup x=some c→c≠it)∧∀q∈X.pn++pins,q.1≠it) (hin:H it=none)
  (h:∀s',Inv X pins σ H s'→R (.ok (.ret (.bool (bs.any id)))) s'):∀(n i:Nat) (s:Shared),bs.length-i=n→i≤bs.length→(bs.take i).any id=false→s.heap.IsListIter it p i→Inv X pins σ H s→
   codeAny (model X.prog X.w) A (.builtin "any.loop" ⟨[.ref it],[]⟩) R s:=by
 intro n
 induction n with
 | zero=>
  intro i s hn hi ht st I
  have ei:i=bs.length:=by omega
  refine codeAny_builtin entry_any_loop ?_
  rw [Around.under_plainId plain_any_loop _]
  obtain ⟨its,rv,pl,hz⟩:=I.list hp
  have hl':=rv.length
  rw [List.length_map] at hl'
  show wpAny _ _ (pyNext (.ref it) >>=_) _ _ s
  refine wpAny_bind (wpAny_pyNext_list_end hA st pl.isList (by simp;omega) fun h' eb=>?_)
  have I':=I.turned (t':=s.toks) (h':=h') (it:=it) (fun b o hb e=>eb b o hb e) hin hit.1 hit.2.1 hit.2.2.1 hit.2.2.2
  refine wpAny_bind (wpAny_rule (wpAny_pure ?_))
  rw [ei,List.take_length] at ht
  have:=h _ I'
  rw [ht] at this
  exact this
 | succ n ih=>
  intro i s hn hi ht st I
  have hi':i < bs.length:=by omega
  refine codeAny_builtin entry_any_loop ?_
  rw [Around.under_plainId plain_any_loop _]
  obtain ⟨its,rv,pl,hz⟩:=I.list hp
  have hyi:(bs.map V.bl)[i]?=some (.bl bs[i]):=by rw [List.getElem?_map,List.getElem?_eq_getElem hi'];rfl
  obtain ⟨u,hu,ru⟩:=rv.get hyi
  cases (show u=Value.bool bs[i] from ru)
  show wpAny _ _ (pyNext (.ref it) >>=_) _ _ s
  refine wpAny_bind (wpAny_pyNext_list_item st pl.isList (x:=.bool bs[i]) (by simpa using hu) fun h' st' sb=>?_)
  have I':=I.turned (t':=s.toks) (h':=h') (it:=it) (fun b o hb e=>(sb.2 b hb).trans e) hin hit.1 hit.2.1 hit.2.2.1 hit.2.2.2
  dsimp only
  refine wpAny_bind (wpAny_holding (wpAny_truthy_bool ?_))
  refine wpAny_bind (wpAny_letGo ?_)
  by_cases hb:bs[i]=true
  ·rw [if_pos hb]
   refine wpAny_bind (wpAny_rule (wpAny_pure ?_))
   have:=h _ I'
   have e:bs.any id=true:=by
    rw [List.any_eq_true]
    exact ⟨bs[i],List.getElem_mem hi',hb⟩
   rw [e] at this
   exact this
  ·rw [if_neg hb]
   refine wpAny_pure ⟨plainId_quiet plain_any_loop _,ih (i+1) _ (by omega) (by omega) ?_ st' I'⟩
   rw [List.take_succ,List.getElem?_eq_getElem hi',List.any_append,ht]
   have hb':bs[i]=false:=by simpa using hb
   rw [hb']
   rfl
theorem uN (hc:X.calm=true):cJ X (.builtin "any") (fun xs H Q=>∃(p:Addr) (bs:List Bool),xs=[.ref p]∧SqL X.K H p (bs.map V.bl)∧Q (.bl (bs.any id)) H):=by
 intro pins s σ H xs us Q I r h
 obtain ⟨p,bs,rfl,hp,q⟩:=h
 obtain ⟨u,rfl,ru⟩:=vals1 r
 cases (show u=Value.ref p from ru)
 have hA:X.A.handled=none:=I.ok.hd hc
 obtain ⟨its,rv,pl,hz⟩:=I.list hp
 refine call_function_tree F.kind_any F.plain_any F.entry_any (F.args_any1 _) ?_
 unfold Builtin.«any»
 show wpAny _ _ (pyIter (.ref p) >>=_) _ _ s
 refine wpAny_bind (wpAny_pyIter_list pl.isList ?_)
 have I3:Inv X pins σ H {s with heap:=s.heap.push {cls:=.type "list_iterator",data:=.fields #[.ref p,.int 0 0]}}:=I.kept (t':=s.toks) fun b o e=>Heap.get?_push_of_some _ e
 obtain ⟨f0,f1,f2,f3,f4,f5⟩:=I.kd (b:=s.heap.objs.size) (H':=H) (Nat.le_refl _) (I.hok.fresh (Nat.le_refl _))
 refine wpAny_pure ⟨plainId_quiet plain_any_loop _,?_⟩
 exact uW (X:=X) (σ:=σ) (H:=H) (by exact hA) hp ⟨f1,f3,f4,f5⟩ f0 (fun s' I'=>⟨.bl _,H,I',rfl,q⟩) bs.length 0 _ (by omega) (Nat.zero_le _) rfl ⟨_,Heap.get?_push_size _ rfl,rfl,rfl⟩ I3
end
end L2
namespace Sm
open PySem L2
inductive D where
 | non | bl (b:Bool) | int (i:Int) | str (x:Str) | ty (n:String)
 | tup (xs:List D) | lv (xs:List D) | ro (xs:List D) | dv (kvs:List (Key×D)) | ob (n:Nat)
inductive MO where
 | lst (xs:List D) | dct (kvs:List (Key×D))
abbrev MH:=List MO
abbrev DS:=List (Option D)
abbrev noH:Hp:=fun _=>none
structure Ad where
 ob:List Addr
 rs:List Addr
def Ad.has (ρ:Ad) (a:Addr):Prop:=a∈ρ.ob∨a∈ρ.rs
def TupAt (K:PySem.W.Frag) (ρ:Ad) (H:Hp) (a:Addr) (vs:List V):Prop:=(Rd H a (.tup vs)∧¬ρ.has a)∨SqT K noH a vs
def zk (K:PySem.W.Frag) (ρ:Ad) (H:Hp) (a:Addr) (vs:List V):Prop:=(Rd H a (.lst vs)∧¬ρ.has a)∨SqL K noH a vs
mutual
inductive Rep (K:PySem.W.Frag) (ρ:Ad) (H:Hp):V→D→Prop where
 | non:Rep K ρ H .non .non
 | bl (b:Bool):Rep K ρ H (.bl b) (.bl b)
 | int (i:Int):Rep K ρ H (.int i) (.int i)
 | str {x:Str} (h:PyData.strOk x=true):Rep K ρ H (.str x) (.str x)
 | ty (n:String):Rep K ρ H (.ty n) (.ty n)
 | tup {a:Addr} {vs:List V} {ds:List D}:TupAt K ρ H a vs→RepL K ρ H vs ds→Rep K ρ H (.ref a) (.tup ds)
 | lv {a:Addr} {vs:List V} {ds:List D}:H a=some (.lst vs)→¬ρ.has a→RepL K ρ H vs ds→Rep K ρ H (.ref a) (.lv ds)
 | ro {a:Addr} {vs:List V} {ds:List D}:zk K ρ H a vs→RepL K ρ H vs ds→Rep K ρ H (.ref a) (.ro ds)
 | dv {a:Addr} {us:List (Key×V)} {kvs:List (Key×D)}:H a=some (.dK us)→¬ρ.has a→RepK K ρ H us kvs→Rep K ρ H (.ref a) (.dv kvs)
 | ob {a:Addr} {n:Nat}:ρ.ob[n]?=some a→Rep K ρ H (.ref a) (.ob n)
inductive RepL (K:PySem.W.Frag) (ρ:Ad) (H:Hp):List V→List D→Prop where
 | nil:RepL K ρ H [] []
 | cons {v:V} {vs:List V} {d:D} {ds:List D}:Rep K ρ H v d→RepL K ρ H vs ds→RepL K ρ H (v::vs) (d::ds)
inductive RepK (K:PySem.W.Frag) (ρ:Ad) (H:Hp):List (Key×V)→List (Key×D)→Prop where
 | nil:RepK K ρ H [] []
 | cons {k:Key} {v:V} {vs:List (Key×V)} {d:D} {ds:List (Key×D)}:Rep K ρ H v d→RepK K ρ H vs ds→RepK K ρ H ((k,v)::vs) ((k,d)::ds)
end
structure Ch (ρ:Ad) (H:Hp) (ρ':Ad) (H':Hp):Prop where
 pre:∀(n:Nat) a,ρ.ob[n]?=some a→ρ'.ob[n]?=some a
 old:∀b o,¬ρ.has b→H b=some o→¬ρ'.has b∧H' b=some o
theorem Ch.refl (ρ:Ad) (H:Hp):Ch ρ H ρ H:=⟨fun _ _ e=>e,fun _ _ n e=>⟨n,e⟩⟩
theorem Ch.trans {ρ ρ1 ρ2:Ad} {H H1 H2:Hp} (a:Ch ρ H ρ1 H1) (b:Ch ρ1 H1 ρ2 H2):Ch ρ H ρ2 H2:=
 ⟨fun n x e=>b.pre n x (a.pre n x e),fun x o n e=>let ⟨n',e'⟩:=a.old x o n e;b.old x o n' e'⟩
structure Stp (ρ:Ad) (H:Hp) (ρ':Ad) (H':Hp):Prop extends Ch ρ H ρ' H' where
 rs:ρ'.rs=ρ.rs
 res:∀b∈ρ.rs,H' b=H b
theorem Stp.refl (ρ:Ad) (H:Hp):Stp ρ H ρ H:=⟨.refl _ _,rfl,fun _ _=>rfl⟩
theorem Stp.trans {ρ ρ1 ρ2:Ad} {H H1 H2:Hp} (a:Stp ρ H ρ1 H1) (b:Stp ρ1 H1 ρ2 H2):Stp ρ H ρ2 H2:=
 ⟨a.toCh.trans b.toCh,b.rs.trans a.rs,fun x hx=>(b.res x (by rw [a.rs];exact hx)).trans (a.res x hx)⟩
instance {ρ ρ':Ad} {H H':Hp}:CoeOut (Stp ρ H ρ' H') (Ch ρ H ρ' H'):=⟨Stp.toCh⟩
theorem Ch.rd {ρ ρ':Ad} {H H':Hp} {a:Addr} {u:HO} (S:Ch ρ H ρ' H') (h:Rd H a u) (n:¬ρ.has a):Rd H' a u∧¬ρ'.has a:=by
 rcases h with h | ⟨o,h⟩
 ·obtain ⟨q,e⟩:=S.old a _ n h;exact ⟨.inl e,q⟩
 ·obtain ⟨q,e⟩:=S.old a _ n h;exact ⟨.inr ⟨o,e⟩,q⟩
mutual
theorem Rep.mono {K:PySem.W.Frag} {ρ ρ':Ad} {H H':Hp} (S:Ch ρ H ρ' H'):∀{v:V} {d:D},Rep K ρ H v d→Rep K ρ' H' v d
 | _,_,.non=>.non
 | _,_,.bl b=>.bl b
 | _,_,.int i=>.int i
 | _,_,.str x=>.str x
 | _,_,.ty n=>.ty n
 | _,_,.tup h l=>.tup (h.elim (fun ⟨a,n⟩=>.inl (S.rd a n)) .inr) (RepL.mono S l)
 | _,_,.lv h n l=>let ⟨n',h'⟩:=S.old _ _ n h;.lv h' n' (RepL.mono S l)
 | _,_,.ro h l=>.ro (h.elim (fun ⟨a,n⟩=>.inl (S.rd a n)) .inr) (RepL.mono S l)
 | _,_,.dv h n l=>let ⟨n',h'⟩:=S.old _ _ n h;.dv h' n' (RepK.mono S l)
 | _,_,.ob e=>.ob (S.pre _ _ e)
theorem RepL.mono {K:PySem.W.Frag} {ρ ρ':Ad} {H H':Hp} (S:Ch ρ H ρ' H'):∀{vs:List V} {ds:List D},RepL K ρ H vs ds→RepL K ρ' H' vs ds
 | _,_,.nil=>.nil
 | _,_,.cons h t=>.cons (Rep.mono S h) (RepL.mono S t)
theorem RepK.mono {K:PySem.W.Frag} {ρ ρ':Ad} {H H':Hp} (S:Ch ρ H ρ' H'):∀{vs:List (Key×V)} {ds:List (Key×D)},RepK K ρ H vs ds→RepK K ρ' H' vs ds
 | _,_,.nil=>.nil
 | _,_,.cons h t=>.cons (Rep.mono S h) (RepK.mono S t)
end
section
variable {K:PySem.W.Frag} {ρ ρ':Ad} {H H':Hp}
theorem RepL.length:∀{vs:List V} {ds:List D},RepL K ρ H vs ds→vs.length=ds.length
 | _,_,.nil=>rfl
 | _,_,.cons _ t=>by rw [List.length_cons,List.length_cons,RepL.length t]
theorem RepL.got:∀{vs:List V} {ds:List D} {i:Nat} {d:D},RepL K ρ H vs ds→ds[i]?=some d→∃v,vs[i]?=some v∧Rep K ρ H v d
 | _,_,_,_,.nil,e=>by simp at e
 | _,_,0,_,.cons r _,e=>by simp at e;subst e;exact ⟨_,rfl,r⟩
 | _,_,i+1,d,.cons _ t,e=>by
  obtain ⟨u,h1,h2⟩:=RepL.got (i:=i) (d:=d) t (by simpa using e)
  exact ⟨u,by simpa using h1,h2⟩
theorem RepL.append:∀{vs ws:List V} {ds es:List D},RepL K ρ H vs ds→RepL K ρ H ws es→RepL K ρ H (vs++ws) (ds++es)
 | _,_,_,_,.nil,s=>s
 | _,_,_,_,.cons r t,s=>.cons r (RepL.append t s)
theorem RepL.take:∀{vs:List V} {ds:List D} (n:Nat),RepL K ρ H vs ds→RepL K ρ H (vs.take n) (ds.take n)
 | _,_,0,_=>.nil
 | _,_,_+1,.nil=>.nil
 | _,_,n+1,.cons r t=>.cons r (RepL.take n t)
theorem RepL.drop:∀{vs:List V} {ds:List D} (n:Nat),RepL K ρ H vs ds→RepL K ρ H (vs.drop n) (ds.drop n)
 | _,_,0,r=>r
 | _,_,_+1,.nil=>.nil
 | _,_,n+1,.cons _ t=>RepL.drop n t
theorem RepL.set {v:V} {d:D} (r:Rep K ρ H v d):∀{vs:List V} {ds:List D} (i:Nat),RepL K ρ H vs ds→RepL K ρ H (vs.set i v) (ds.set i d)
 | _,_,_,.nil=>.nil
 | _,_,0,.cons _ t=>.cons r t
 | _,_,i+1,.cons q t=>.cons q (RepL.set r i t)
theorem RepL.snoc {v:V} {d:D} {vs:List V} {ds:List D} (t:RepL K ρ H vs ds) (r:Rep K ρ H v d):RepL K ρ H (vs++[v]) (ds++[d]):=t.append (.cons r .nil)
theorem RepL.isEmpty {vs:List V} {ds:List D} (t:RepL K ρ H vs ds):vs.isEmpty=ds.isEmpty:=by cases t <;> rfl
theorem TupAt.sq {a:Addr} {vs:List V} (h:TupAt K ρ H a vs):SqT K H a vs:=by
 rcases h with ⟨h,_⟩ | h
 ·exact .inl h
 ·rcases h with (h | ⟨o,h⟩) | h
  ·cases h
  ·cases h
  ·exact .inr h
theorem zk.sq {a:Addr} {vs:List V} (h:zk K ρ H a vs):SqL K H a vs:=by
 rcases h with ⟨h,_⟩ | h
 ·exact .inl h
 ·rcases h with (h | ⟨o,h⟩) | h
  ·cases h
  ·cases h
  ·exact .inr h
end
def ObR (K:PySem.W.Frag) (ρ:Ad) (H:Hp) (a:Addr):MO→Prop
 | .lst ds=>∃vs,H a=some (.lst vs)∧RepL K ρ H vs ds
 | .dct kvs=>∃us,H a=some (.dK us)∧RepK K ρ H us kvs
structure Sim (K:PySem.W.Frag) (ρ:Ad) (h:MH) (H:Hp):Prop where
 len:ρ.ob.length=h.length
 nd:ρ.ob.Nodup
 at_:∀(n:Nat) a o,ρ.ob[n]?=some a→h[n]?=some o→ObR K ρ H a o
 rsv:∀b∈ρ.rs,(∃o,H b=some o)∧b∉ρ.ob
section
variable {K:PySem.W.Frag} {ρ ρ':Ad} {H H':Hp} {h:MH}
theorem ObR.has {a:Addr} {o:MO} (x:ObR K ρ H a o):∃u,H a=some u:=by
 cases o with
 | lst ds=>obtain ⟨vs,e,_⟩:=x;exact ⟨_,e⟩
 | dct ds=>obtain ⟨vs,e,_⟩:=x;exact ⟨_,e⟩
theorem ObR.mono {a:Addr} {o:MO} (x:ObR K ρ H a o) (T:Ch ρ H ρ' H') (e:H' a=H a):ObR K ρ' H' a o:=by
 cases o with
 | lst ds=>obtain ⟨vs,x,r⟩:=x;exact ⟨vs,e.trans x,r.mono T⟩
 | dct ds=>obtain ⟨vs,x,r⟩:=x;exact ⟨vs,e.trans x,r.mono T⟩
theorem Sim.mem (S:Sim K ρ h H) {a:Addr} (ha:a∈ρ.ob):∃(n:Nat) (o:MO),ρ.ob[n]?=some a∧h[n]?=some o∧ObR K ρ H a o:=by
 obtain ⟨n,hn,e⟩:=List.mem_iff_getElem.mp ha
 have hn':n < h.length:=by rw [←S.len];exact hn
 have e1:ρ.ob[n]?=some a:=by rw [List.getElem?_eq_getElem hn,e]
 exact ⟨n,h[n],e1,List.getElem?_eq_getElem hn',S.at_ n a _ e1 (List.getElem?_eq_getElem hn')⟩
theorem Sim.has (S:Sim K ρ h H) {a:Addr} (ha:ρ.has a):∃u,H a=some u:=by
 rcases ha with ha | ha
 ·obtain ⟨_,_,_,_,x⟩:=S.mem ha;exact x.has
 ·exact (S.rsv a ha).1
theorem Sim.fresh (S:Sim K ρ h H) {p:Addr} (hp:H p=none):¬ρ.has p:=fun m=>by
 obtain ⟨u,e⟩:=S.has m
 rw [hp] at e;cases e
theorem Stp.laid (S:Sim K ρ h H) {p:Addr} {o:HO} (hp:H p=none):Stp ρ H ρ (upd H p o):=
 ⟨⟨fun _ _ e=>e,fun b u n e=>⟨n,by rw [ai (ax e hp)];exact e⟩⟩,rfl,fun b hb=>by
  obtain ⟨u,e⟩:=(S.rsv b hb).1
  rw [ai (ax e hp)]⟩
theorem Sim.same (S:Sim K ρ h H) (T:Stp ρ H ρ H') (k:∀a∈ρ.ob,H' a=H a):Sim K ρ h H':=
 ⟨S.len,S.nd,fun n a o e1 e2=>(S.at_ n a o e1 e2).mono T.toCh (k a (List.mem_of_getElem? e1)),fun b hb=>⟨by rw [T.res b hb];exact (S.rsv b hb).1,(S.rsv b hb).2⟩⟩
theorem Sim.laid (S:Sim K ρ h H) {p:Addr} {o:HO} (hp:H p=none):Sim K ρ h (upd H p o):=
 S.same (Stp.laid S hp) fun a ha=>by
  obtain ⟨u,e⟩:=S.has (.inl ha)
  rw [ai (ax e hp)]
abbrev Ad.more (ρ:Ad) (p:Addr):Ad:=⟨ρ.ob++[p],ρ.rs⟩
theorem Stp.made (S:Sim K ρ h H) {p:Addr} {o:HO} (hp:H p=none):Stp ρ H (ρ.more p) (upd H p o):=by
 refine ⟨⟨fun n a e=>?_,fun b u n e=>?_⟩,rfl,(Stp.laid S hp).res⟩
 ·show (ρ.ob++[p])[n]?=_
  rw [List.getElem?_append_left (List.getElem?_eq_some_iff.mp e).1];exact e
 ·refine ⟨fun m=>?_,by rw [ai (ax e hp)];exact e⟩
  rcases m with m | m
  ·rcases List.mem_append.mp m with m | m
   ·exact n (.inl m)
   ·exact ax e hp (List.mem_singleton.mp m)
  ·exact n (.inr m)
theorem Sim.made (S:Sim K ρ h H) {p:Addr} {u:HO} {o:MO} (hp:H p=none) (ho:ObR K (ρ.more p) (upd H p u) p o):Sim K (ρ.more p) (h++[o]) (upd H p u):=by
 refine ⟨by simp [S.len],?_,fun n a x e1 e2=>?_,fun b hb=>?_⟩
 ·show (ρ.ob++[p]).Nodup
  rw [List.nodup_append]
  refine ⟨S.nd,by simp,fun a ha b hb z=>?_⟩
  rw [List.mem_singleton.mp hb] at z
  exact S.fresh hp (.inl (z ▸ ha))
 ·by_cases hn:n < ρ.ob.length
  ·have e1:(ρ.ob++[p])[n]?=some a:=e1
   rw [List.getElem?_append_left hn] at e1
   rw [List.getElem?_append_left (by rw [←S.len];exact hn)] at e2
   have q:=S.at_ n a x e1 e2
   obtain ⟨w,ew⟩:=q.has
   exact q.mono (Stp.made S hp).toCh (ai (ax ew hp))
  ·have l1:=(List.getElem?_eq_some_iff.mp e1).1
   simp at l1
   have hn':n=ρ.ob.length:=by omega
   subst hn'
   have e1:(ρ.ob++[p])[ρ.ob.length]?=some a:=e1
   rw [List.getElem?_append_right (Nat.le_refl _)] at e1
   rw [List.getElem?_append_right (by rw [S.len];exact Nat.le_refl _)] at e2
   simp at e1
   rw [S.len] at e2
   simp at e2
   subst e1;subst e2
   exact ho
 ·obtain ⟨⟨v,e⟩,n⟩:=S.rsv b hb
  have z:=ax e hp
  refine ⟨⟨v,by rw [ai z];exact e⟩,fun m=>?_⟩
  rcases List.mem_append.mp m with m | m
  ·exact n m
  ·exact z (List.mem_singleton.mp m)
theorem Stp.wrote (S:Sim K ρ h H) {a:Addr} {o:HO} (ha:a∈ρ.ob):Stp ρ H ρ (upd H a o):=
 ⟨⟨fun _ _ e=>e,fun b u n e=>⟨n,by rw [ai (fun (z:b=a)=>n (.inl (by rw [z];exact ha)))];exact e⟩⟩,rfl,fun b hb=>ai fun (z:b=a)=>(S.rsv b hb).2 (by rw [z];exact ha)⟩
theorem Sim.wrote (S:Sim K ρ h H) {n:Nat} {a:Addr} {u:HO} {o:MO} (e:ρ.ob[n]?=some a) (ho:ObR K ρ (upd H a u) a o):Sim K ρ (h.set n o) (upd H a u):=by
 have ha:=List.mem_of_getElem? e
 have T:Stp ρ H ρ (upd H a u):=Stp.wrote S ha
 refine ⟨by rw [List.length_set];exact S.len,S.nd,fun m b x e1 e2=>?_,fun b hb=>⟨by rw [T.res b hb];exact (S.rsv b hb).1,(S.rsv b hb).2⟩⟩
 by_cases hm:n=m
 ·subst hm
  have l2:n < h.length:=by rw [←S.len];exact (List.getElem?_eq_some_iff.mp e).1
  rw [e] at e1;cases e1
  rw [List.getElem?_set_self l2] at e2;cases e2
  exact ho
 ·rw [List.getElem?_set_ne hm] at e2
  have q:=S.at_ m b x e1 e2
  have hb:b≠a:=by
   intro z
   subst z
   exact hm ((List.getElem?_inj (List.getElem?_eq_some_iff.mp e).1 S.nd).mp (e.trans e1.symm))
  exact q.mono T.toCh (ai hb)
abbrev Ad.keep (ρ:Ad) (l:Addr):Ad:=⟨ρ.ob,l::ρ.rs⟩
theorem Ch.keep {l:Addr} {o:HO} (hl:H l=none):Ch ρ H (ρ.keep l) (upd H l o):=by
 refine ⟨fun n a e=>e,fun b u n e=>⟨fun m=>?_,by rw [ai (ax e hl)];exact e⟩⟩
 rcases m with m | m
 ·exact n (.inl m)
 ·rcases List.mem_cons.mp m with m | m
  ·exact ax e hl m
  ·exact n (.inr m)
theorem Sim.keep (S:Sim K ρ h H) {l:Addr} {o:HO} (hl:H l=none):Sim K (ρ.keep l) h (upd H l o):=by
 refine ⟨S.len,S.nd,fun n a x e1 e2=>?_,fun b hb=>?_⟩
 ·have q:=S.at_ n a x e1 e2
  obtain ⟨w,ew⟩:=q.has
  exact q.mono (Ch.keep hl) (ai (ax ew hl))
 ·rcases List.mem_cons.mp hb with rfl | hb
  ·exact ⟨⟨_,ar⟩,fun m=>S.fresh hl (.inl m)⟩
  ·obtain ⟨⟨v,e⟩,n⟩:=S.rsv b hb
   exact ⟨⟨v,by rw [ai (ax e hl)];exact e⟩,n⟩
theorem Ch.put {l:Addr} {o:HO} (hl:l∈ρ.rs):Ch ρ H ρ (upd H l o):=⟨fun n a e=>e,fun b u n e=>⟨n,by rw [ai (fun (z:b=l)=>n (.inr (by rw [z];exact hl)))];exact e⟩⟩
theorem Sim.put (S:Sim K ρ h H) {l:Addr} {o:HO} (hl:l∈ρ.rs):Sim K ρ h (upd H l o):=by
 refine ⟨S.len,S.nd,fun n a x e1 e2=>(S.at_ n a x e1 e2).mono (Ch.put hl) (ai fun (z:a=l)=>(S.rsv l hl).2 (by rw [←z];exact List.mem_of_getElem? e1)),fun b hb=>⟨?_,(S.rsv b hb).2⟩⟩
 by_cases z:b=l
 ·subst z;exact ⟨_,ar⟩
 ·rw [ai z];exact (S.rsv b hb).1
theorem Ch.free {os rs rs':List Addr} {H:Hp} (hs:∀b∈rs',b∈rs):Ch ⟨os,rs⟩ H ⟨os,rs'⟩ H:=⟨fun n a e=>e,fun b u n e=>⟨fun m=>n (m.elim .inl fun m=>.inr (hs b m)),e⟩⟩
theorem Sim.free {os rs rs':List Addr} {H:Hp} (S:Sim K ⟨os,rs⟩ h H) (hs:∀b∈rs',b∈rs):Sim K ⟨os,rs'⟩ h H:=
 ⟨S.len,S.nd,fun n a x e1 e2=>(S.at_ n a x e1 e2).mono (Ch.free hs) rfl,fun b hb=>S.rsv b (hs b hb)⟩
end
structure RepS (K:PySem.W.Frag) (ρ:Ad) (H:Hp) (σ:St) (δ:DS):Prop where
 len:σ.length=δ.length
 at_:∀(i:Nat) d,δ[i]?=some (some d)→∃v,σ[i]?=some (some v)∧Rep K ρ H v d
section
variable {K:PySem.W.Frag} {ρ ρ':Ad} {H H':Hp} {h:MH} {σ:St} {δ:DS}
theorem RepS.mono (R:RepS K ρ H σ δ) (S:Ch ρ H ρ' H'):RepS K ρ' H' σ δ:=⟨R.len,fun i d e=>let ⟨v,a,b⟩:=R.at_ i d e;⟨v,a,b.mono S⟩⟩
theorem RepS.set (R:RepS K ρ H σ δ) {v:V} {d:D} (r:Rep K ρ H v d) (i:Nat):RepS K ρ H (σ.set i (some v)) (δ.set i (some d)):=by
 refine ⟨by rw [List.length_set,List.length_set];exact R.len,fun j e he=>?_⟩
 by_cases hij:i=j
 ·subst hij
  have hl:i < δ.length:=by
   have:=(List.getElem?_eq_some_iff.mp he).1
   rw [List.length_set] at this
   exact this
  rw [List.getElem?_set_self hl] at he
  cases he
  exact ⟨v,by rw [List.getElem?_set_self (by rw [R.len];exact hl)],r⟩
 ·rw [List.getElem?_set_ne hij] at he ⊢
  exact R.at_ j e he
end
abbrev EM:=DS→MH→Option (D×MH)
abbrev TM:=DS→MH→Option (Bool×MH)
abbrev AM:=DS→MH→Option (List D×MH)
inductive Fl where
 | nx | bk | ct | rt (d:D)
abbrev SM:=DS→MH→Option (Fl×DS×MH)
abbrev GM:=D→DS→MH→Option (DS×MH)
abbrev Fn:=List D→MH→Option (D×MH)
inductive PostI (K:PySem.W.Frag) (ρ:Ad) (H:Hp) (h':MH) (d:D) (v:V) (H':Hp):Prop where
 | mk (ρ'):Stp ρ H ρ' H'→Sim K ρ' h' H'→Rep K ρ' H' v d→PostI K ρ H h' d v H'
def bM (K:PySem.W.Frag) (ρ:Ad) (H:Hp) (h':MH) (d:D):VK:=fun v H'=>PostI K ρ H h' d v H'
inductive TMi (K:PySem.W.Frag) (m:EM) (σ:L2.St) (H:Hp) (Q:VK):Prop where
 | mk (ρ δ h d h'):RepS K ρ H σ δ→Sim K ρ h H→(m δ h=some (d,h'))→(∀v H',bM K ρ H h' d v H'→Q v H')→TMi K m σ H Q
def tM (K:PySem.W.Frag) (m:EM):TE:=fun σ H Q=>TMi K m σ H Q
inductive TMTi (K:PySem.W.Frag) (m:TM) (σ:L2.St) (H:Hp) (Q:Bool→Hp→Prop):Prop where
 | mk (ρ δ h b h'):RepS K ρ H σ δ→Sim K ρ h H→(m δ h=some (b,h'))→(∀ρ' H',Stp ρ H ρ' H'→Sim K ρ' h' H'→Q b H')→TMTi K m σ H Q
def tMT (K:PySem.W.Frag) (m:TM):TT:=fun σ H Q=>TMTi K m σ H Q
inductive TMAi (K:PySem.W.Frag) (m:AM) (σ:L2.St) (H:Hp) (Q:List V→Hp→Prop):Prop where
 | mk (ρ δ h ds h'):RepS K ρ H σ δ→Sim K ρ h H→(m δ h=some (ds,h'))→(∀vs ρ' H',Stp ρ H ρ' H'→Sim K ρ' h' H'→RepL K ρ' H' vs ds→Q vs H')→TMAi K m σ H Q
def tMA (K:PySem.W.Frag) (m:AM):TA:=fun σ H Q=>TMAi K m σ H Q
inductive TMSi (K:PySem.W.Frag) (m:SM) (E:Ends) (σ:L2.St) (H:Hp):Prop where
 | mk (ρ δ h fl δ' h'):RepS K ρ H σ δ→Sim K ρ h H→(m δ h=some (fl,δ',h'))→(∀ρ' H',Stp ρ H ρ' H'→Sim K ρ' h' H'→
 match fl with
 | .nx=>∀σ',RepS K ρ' H' σ' δ'→E.nx σ' H'
 | .bk=>∀σ',RepS K ρ' H' σ' δ'→E.bk σ' H'
 | .ct=>∀σ',RepS K ρ' H' σ' δ'→E.ct σ' H'
 | .rt d=>∀v,Rep K ρ' H' v d→E.rt v H')→TMSi K m E σ H
def tMS (K:PySem.W.Frag) (m:SM):TS:=fun E σ H=>TMSi K m E σ H
inductive TMGi (K:PySem.W.Frag) (m:GM) (v:V) (σ:L2.St) (H:Hp) (Q:L2.St→Hp→Prop):Prop where
 | mk (ρ δ h d δ' h'):RepS K ρ H σ δ→Sim K ρ h H→Rep K ρ H v d→(m d δ h=some (δ',h'))→(∀ρ' H' σ',Stp ρ H ρ' H'→Sim K ρ' h' H'→RepS K ρ' H' σ' δ'→Q σ' H')→TMGi K m v σ H Q
def tMG (K:PySem.W.Frag) (m:GM):TG:=fun v σ H Q=>TMGi K m v σ H Q
def SE (X:Cx) (e:Expr) (m:EM):Prop:=PE X e (tM X.K m)
def ST (X:Cx) (e:Expr) (m:TM):Prop:=PT X e (tMT X.K m)
def SW (X:Cx) (e:Expr) (m:TM):Prop:=PW X e (tMT X.K m)
def SA (X:Cx) (es:List Expr) (m:AM):Prop:=PA X es (tMA X.K m)
def SS (X:Cx) (s:Stmt) (m:SM):Prop:=PS X s (tMS X.K m)
def SSs (X:Cx) (s:List Stmt) (m:SM):Prop:=PSs X s (tMS X.K m)
def SG (X:Cx) (e:Expr) (m:GM):Prop:=PG X e (tMG X.K m)
theorem _root_.L2.PE.imp {X:Cx} {e:Expr} {t t':TE} (h:PE X e t) (i:∀σ H Q,t' σ H Q→t σ H Q):PE X e t':=fun pins s σ H Q I q=>h pins s σ H Q I (i σ H Q q)
theorem _root_.L2.PT.imp {X:Cx} {e:Expr} {t t':TT} (h:PT X e t) (i:∀σ H Q,t' σ H Q→t σ H Q):PT X e t':=fun pins s σ H Q I q=>h pins s σ H Q I (i σ H Q q)
theorem _root_.L2.PW.imp {X:Cx} {e:Expr} {t t':TT} (h:PW X e t) (i:∀σ H Q,t' σ H Q→t σ H Q):PW X e t':=fun wh pins s σ H Q I q=>h wh pins s σ H Q I (i σ H Q q)
theorem _root_.L2.PA.imp {X:Cx} {e:List Expr} {t t':TA} (h:PA X e t) (i:∀σ H Q,t' σ H Q→t σ H Q):PA X e t':=fun pos pins s σ H Q I q=>h pos pins s σ H Q I (i σ H Q q)
theorem _root_.L2.PS.imp {X:Cx} {e:Stmt} {t t':TS} (h:PS X e t) (i:∀E σ H,t' E σ H→t E σ H):PS X e t':=fun pins s σ H E I q=>h pins s σ H E I (i E σ H q)
theorem _root_.L2.PSs.imp {X:Cx} {e:List Stmt} {t t':TS} (h:PSs X e t) (i:∀E σ H,t' E σ H→t E σ H):PSs X e t':=fun pins s σ H E I q=>h pins s σ H E I (i E σ H q)
theorem _root_.L2.PG.imp {X:Cx} {e:Expr} {t t':TG} (h:PG X e t) (i:∀v σ H Q,t' v σ H Q→t v σ H Q):PG X e t':=fun pins s σ H v u Q I r q=>h pins s σ H v u Q I r (i v σ H Q q)
end Sm
namespace Sm
open PySem L2
theorem bnd {α β:Type} {o:Option α} {f:α→Option β} {b:β} (h:o.bind f=some b):∃a,o=some a∧f a=some b:=Option.bind_eq_some_iff.mp h
theorem mpd {α β:Type} {o:Option α} {f:α→β} {b:β} (h:o.map f=some b):∃a,o=some a∧f a=b:=Option.map_eq_some_iff.mp h
theorem uS {x:D} {α:Type} {g:Bool→Option α} {z:α} (e:(match x with | .bl c=>g c | _=>none)=some z):∃c,x=.bl c∧g c=some z:=by
 cases x <;> first | exact absurd e (by intro z;cases z) | exact ⟨_,rfl,e⟩
section
variable {K:PySem.W.Frag} {ρ ρ':Ad} {H H':Hp} {h h':MH} {d:D} {v:V}
theorem bM.here (S:Sim K ρ h H) (r:Rep K ρ H v d):bM K ρ H h d v H:=⟨ρ,.refl _ _,S,r⟩
theorem bM.step {ρ1:Ad} {H1:Hp} (T:Stp ρ H ρ1 H1) (p:bM K ρ1 H1 h' d v H'):bM K ρ H h' d v H':=let ⟨ρ2,T2,S2,r2⟩:=p;⟨ρ2,T.trans T2,S2,r2⟩
theorem bM.tup {p:Addr} {vs:List V} {ds:List D} (S:Sim K ρ h H) (r:RepL K ρ H vs ds) (hp:H p=none):bM K ρ H h (.tup ds) (.ref p) (upd H p (.tup vs)):=
 ⟨ρ,Stp.laid S hp,S.laid hp,.tup (.inl ⟨.inl ar,S.fresh hp⟩) (r.mono (Stp.laid S hp).toCh)⟩
theorem bM.lv {p:Addr} {vs:List V} {ds:List D} (S:Sim K ρ h H) (r:RepL K ρ H vs ds) (hp:H p=none):bM K ρ H h (.lv ds) (.ref p) (upd H p (.lst vs)):=
 ⟨ρ,Stp.laid S hp,S.laid hp,.lv ar (S.fresh hp) (r.mono (Stp.laid S hp).toCh)⟩
theorem bM.dv {p:Addr} {us:List (Key×V)} {ds:List (Key×D)} (S:Sim K ρ h H) (r:RepK K ρ H us ds) (hp:H p=none):bM K ρ H h (.dv ds) (.ref p) (upd H p (.dK us)):=
 ⟨ρ,Stp.laid S hp,S.laid hp,.dv ar (S.fresh hp) (r.mono (Stp.laid S hp).toCh)⟩
end
def ae (i:Nat):EM:=fun δ h=>(δ[i]?).join.map fun d=>(d,h)
def eK (d:D):EM:=fun _ h=>some (d,h)
def eOp (f:D→D→MH→Option (D×MH)) (a b:EM):EM:=fun δ h=>(a δ h).bind fun p=>(b δ p.2).bind fun q=>f p.1 q.1 q.2
def eUn (f:D→MH→Option (D×MH)) (a:EM):EM:=fun δ h=>(a δ h).bind fun p=>f p.1 p.2
def av:AM:=fun _ h=>some ([],h)
def af (a:EM) (r:AM):AM:=fun δ h=>(a δ h).bind fun p=>(r δ p.2).bind fun q=>some (p.1::q.1,q.2)
def eFn (f:Fn) (a:AM):EM:=fun δ h=>(a δ h).bind fun p=>f p.1 p.2
def eIf (t:TM) (a b:EM):EM:=fun δ h=>(t δ h).bind fun p=>if p.1 then a δ p.2 else b δ p.2
def bq (a:EM):TM:=fun δ h=>(a δ h).bind fun p=>match p.1 with
 | .bl b=>some (b,p.2)
 | _=>none
def qL (t:TM):TM:=fun δ h=>(t δ h).map fun p=>(!p.1,p.2)
def mW (a b:TM):TM:=fun δ h=>(a δ h).bind fun p=>if p.1 then b δ p.2 else some (false,p.2)
def tOr (a b:TM):TM:=fun δ h=>(a δ h).bind fun p=>if p.1 then some (true,p.2) else b δ p.2
def y7 (a b:EM):EM:=fun δ h=>(a δ h).bind fun p=>match p.1 with
 | .bl c=>if c then b δ p.2 else some (.bl false,p.2)
 | _=>none
def eOr (a b:EM):EM:=fun δ h=>(a δ h).bind fun p=>match p.1 with
 | .bl c=>if c then some (.bl true,p.2) else b δ p.2
 | _=>none
def my:Fn:=fun ds h=>some (.tup ds,h)
inductive RSi (K:PySem.W.Frag) (f:D→D→MH→Option (D×MH)) (x y:V) (H:Hp) (Q:VK):Prop where
 | mk (ρ h d e z h'):Sim K ρ h H→Rep K ρ H x d→Rep K ρ H y e→(f d e h=some (z,h'))→(∀v H',bM K ρ H h' z v H'→Q v H')→RSi K f x y H Q
def rS (K:PySem.W.Frag) (f:D→D→MH→Option (D×MH)):R2:=fun x y H Q=>RSi K f x y H Q
def OpS (X:Cx) (g:Value→Value→Sem Value) (f:D→D→MH→Option (D×MH)):Prop:=OpR X g (rS X.K f)
inductive RUi (K:PySem.W.Frag) (f:D→MH→Option (D×MH)) (x:V) (H:Hp) (Q:VK):Prop where
 | mk (ρ h d z h'):Sim K ρ h H→Rep K ρ H x d→(f d h=some (z,h'))→(∀v H',bM K ρ H h' z v H'→Q v H')→RUi K f x H Q
def rU (K:PySem.W.Frag) (f:D→MH→Option (D×MH)):V→Hp→VK→Prop:=fun x H Q=>RUi K f x H Q
inductive RFi (K:PySem.W.Frag) (f:Fn) (vs:List V) (H:Hp) (Q:VK):Prop where
 | mk (ρ h ds z h'):Sim K ρ h H→RepL K ρ H vs ds→(f ds h=some (z,h'))→(∀v H',bM K ρ H h' z v H'→Q v H')→RFi K f vs H Q
def rF (K:PySem.W.Frag) (f:Fn):List V→Hp→VK→Prop:=fun vs H Q=>RFi K f vs H Q
def eC (X:Cx) (g:Value) (f:Fn):Prop:=cJ X g (rF X.K f)
section
variable {X:Cx} {a b c e:Expr} {es:List Expr} {pos:Pos} {ma mb mc:EM} {mt mu:TM} {m:AM} {f:D→D→MH→Option (D×MH)}
theorem xM {i:Nat} {x:Str} (hN:X.N[i]?=some x) (hv:Vis X.env.scope x) (hd:(x==("__debug__":Str))=false:=by kernel_rfl) (hcd:(x==("__classdict__":Str))=false:=by kernel_rfl):SE X (.Name x pos) (ae i):=
 (tN hN hv hd hcd).imp fun σ H Q ⟨ρ,δ,h,d,h',R,S,e,k⟩=>by
  obtain ⟨d',e1,e2⟩:=mpd e
  cases e2
  obtain ⟨v,ev,r⟩:=R.at_ i _ (Option.join_eq_some_iff.mp e1)
  exact ⟨v,ev,k v H (.here S r)⟩
theorem sW {v:V} {d:D} (hp:PE X e (tC v)) (hr:∀ρ H,Rep X.K ρ H v d):SE X e (eK d):=hp.imp fun σ H Q ⟨ρ,δ,h,d',h',R,S,ee,k⟩=>by
 cases ee
 exact k v H (.here S (hr _ _))
theorem ak {i j}:SE X (.Constant (.int i) j pos) (eK (.int i)):=sW yu fun _ _=>.int i
theorem kF {b j}:SE X (.Constant (.bool b) j pos) (eK (.bl b)):=sW Ao fun _ _=>.bl b
theorem c9 {j}:SE X (.Constant .none j pos) (eK .non):=sW yr fun _ _=>.non
theorem eQ {x j} (h:PyData.strOk x=true:=by decide+kernel):SE X (.Constant (.str x) j pos) (eK (.str x)):=sW yo fun _ _=>.str h
theorem zN {x:Str} {n:String} (hg:Gl X x) (hm:X.mg x=none) (hv:bootBuiltins x=some (.type n)) (hn:x≠"__name__":=by decide) (hd:(x==("__debug__":Str))=false:=by kernel_rfl):SE X (.Name x pos) (eK (.ty n)):=
 sW (wa (v:=.ty n) hg hm hv rfl hn hd) fun _ _=>.ty n
theorem pZ {σ:St} {H:Hp} {Q:VK} (h:tM X.K (eOp f ma mb) σ H Q):tOp (rS X.K f) (tM X.K ma) (tM X.K mb) σ H Q:=by
 obtain ⟨ρ,δ,h,d,h',R,S,e,k⟩:=h
 obtain ⟨⟨x,h1⟩,e1,e⟩:=bnd e
 obtain ⟨⟨y,h2⟩,e2,e3⟩:=bnd e
 refine ⟨ρ,δ,h,x,h1,R,S,e1,fun v H1 ⟨ρ1,T1,S1,r1⟩=>?_⟩
 refine ⟨ρ1,δ,h1,y,h2,R.mono T1,S1,e2,fun u H2 ⟨ρ2,T2,S2,r2⟩=>?_⟩
 exact ⟨ρ2,h2,x,y,d,h',S2,r1.mono T2,r2,e3,fun w H3 p=>k w H3 (p.step (T1.trans T2))⟩
theorem aG {op:Operator} (ho:OpS X (binaryOp op) f) (ha:SE X a ma) (hb:SE X b mb):SE X (.BinOp a op b pos) (eOp f ma mb):=(Al ho ha hb).imp fun _ _ _=>pZ
theorem gR {op:CmpOp} (ho:OpS X (compareOp op) f) (ha:SE X a ma) (hb:SE X b mb) (hm:behindInMarks op b=false):SE X (.Compare a [op] [b] pos) (eOp f ma mb):=(v8 ho ha hb hm).imp fun _ _ _=>pZ
theorem bC {op:CmpOp} (ho:OpS X (compareOp op) f) (ha:SE X a ma) (hb:SE X b mb) (hm:behindInMarks op b=false):ST X (.Compare a [op] [b] pos) (bq (eOp f ma mb)):=
 (vK ho ha hb hm).imp fun σ H Q ⟨ρ,δ,h,c,h',R,S,e,k⟩=>by
  obtain ⟨⟨x,h1⟩,e1,e2⟩:=bnd e
  obtain ⟨c',rfl,e2⟩:=uS e2
  cases e2
  refine pZ ⟨ρ,δ,h,.bl c,h1,R,S,e1,fun v H' ⟨ρ',T,S',r⟩=>?_⟩
  cases r
  exact ⟨c,rfl,k ρ' H' T S'⟩
theorem ng {op:UnaryOp} {f:D→MH→Option (D×MH)} (ho:UnR X (unaryOp op) (rU X.K f)) (ha:SE X a ma):SE X (.UnaryOp op a pos) (eUn f ma):=(Aj ho ha).imp fun σ H Q ⟨ρ,δ,h,d,h',R,S,e,k⟩=>by
 obtain ⟨⟨x,h1⟩,e1,e⟩:=bnd e
 exact ⟨ρ,δ,h,x,h1,R,S,e1,fun v H1 ⟨ρ1,T1,S1,r1⟩=>⟨ρ1,h1,x,d,h',S1,r1,e,fun w H3 p=>k w H3 (p.step T1)⟩⟩
theorem ah:SA X [] av:=oY.imp fun σ H Q ⟨ρ,δ,h,d,h',R,S,e,k⟩=>by
 cases e
 exact k [] ρ H (.refl _ _) S .nil
theorem aa (ha:SE X e ma) (hr:SA X es m) (hs:starEach (e::es) X.env=(false,eval e X.env)::starEach es X.env:=by kernel_rfl):SA X (e::es) (af ma m):=
 (iP ha hr hs).imp fun σ H Q ⟨ρ,δ,h,d,h',R,S,e,k⟩=>by
  obtain ⟨⟨x,h1⟩,e1,e⟩:=bnd e
  obtain ⟨⟨ys,h2⟩,e2,e3⟩:=bnd e
  cases e3
  refine ⟨ρ,δ,h,x,h1,R,S,e1,fun v H1 ⟨ρ1,T1,S1,r1⟩=>?_⟩
  exact ⟨ρ1,δ,h1,ys,h2,R.mono T1,S1,e2,fun vs ρ2 H2 T2 S2 rs=>k _ ρ2 H2 (T1.trans T2) S2 (.cons (r1.mono T2) rs)⟩
def iL (m:AM) (n:Nat):Prop:=∀δ h ds h',m δ h=some (ds,h')→ds.length=n
theorem aq:iL av 0:=fun δ h ds h' e=>by cases e;rfl
theorem ab {n:Nat} (hr:iL m n):iL (af ma m) (n+1):=fun δ h ds h' e=>by
 obtain ⟨⟨x,h1⟩,e1,e⟩:=bnd e
 obtain ⟨⟨ys,h2⟩,e2,e3⟩:=bnd e
 cases e3
 rw [List.length_cons,hr _ _ _ _ e2]
theorem gQ {x1} {n:Nat} (h:SA X es m) (hl:iL m n) (hn:n≤sizeLine:=by decide):SE X (.Tuple es x1 pos) (eFn my m):=(yn h).imp fun σ H Q ⟨ρ,δ,h,d,h',R,S,e,k⟩=>by
 obtain ⟨⟨x,h1⟩,e1,e⟩:=bnd e
 cases e
 refine ⟨ρ,δ,h,x,h1,R,S,e1,fun vs ρ1 H1 T1 S1 r1=>⟨by rw [r1.length,hl _ _ _ _ e1];exact hn,fun p hp=>k _ _ (bM.step T1 (.tup S1 r1 hp))⟩⟩
inductive TFLi (K:PySem.W.Frag) (m:AM) (σ:L2.St) (H:Hp) (Q:VK):Prop where
 | mk (ρ δ h ds h'):RepS K ρ H σ δ→Sim K ρ h H→(m δ h=some (ds,h'))→(∀ρ1 H1 p vs,Stp ρ H ρ1 H1→Sim K ρ1 h' H1→H1 p=none→RepL K ρ1 H1 vs ds→Q (.ref p) (upd H1 p (.lst vs)))→TFLi K m σ H Q
def tFL (K:PySem.W.Frag) (m:AM):TE:=fun σ H Q=>TFLi K m σ H Q
def SFL (X:Cx) (e:Expr) (m:AM):Prop:=PE X e (tFL X.K m)
def eLv (m:AM):EM:=fun δ h=>(m δ h).map fun p=>(.lv p.1,p.2)
def eOb (m:AM):EM:=fun δ h=>(m δ h).map fun p=>(.ob p.2.length,p.2++[.lst p.1])
theorem bM.ob {K:PySem.W.Frag} {ρ:Ad} {H:Hp} {h:MH} {p:Addr} {vs:List V} {ds:List D} (S:Sim K ρ h H) (r:RepL K ρ H vs ds) (hp:H p=none):bM K ρ H (h++[.lst ds]) (.ob h.length) (.ref p) (upd H p (.lst vs)):=
 ⟨ρ.more p,Stp.made S hp,S.made hp ⟨vs,ar,r.mono (Stp.made S hp).toCh⟩,.ob (show (ρ.ob++[p])[h.length]?=_ by rw [←S.len,List.getElem?_append_right (Nat.le_refl _)];simp)⟩
theorem bM.obD {K:PySem.W.Frag} {ρ:Ad} {H:Hp} {h:MH} {p:Addr} {vs:List (Key×V)} {ds:List (Key×D)} (S:Sim K ρ h H) (r:RepK K ρ H vs ds) (hp:H p=none):bM K ρ H (h++[.dct ds]) (.ob h.length) (.ref p) (upd H p (.dK vs)):=
 ⟨ρ.more p,Stp.made S hp,S.made hp ⟨vs,ar,r.mono (Stp.made S hp).toCh⟩,.ob (show (ρ.ob++[p])[h.length]?=_ by rw [←S.len,List.getElem?_append_right (Nat.le_refl _)];simp)⟩
theorem SFL.lv (h:SFL X e m):SE X e (eLv m):=h.imp fun σ H Q ⟨ρ,δ,h,d,h',R,S,e,k⟩=>by
 obtain ⟨⟨ds,h1⟩,e1,e2⟩:=mpd e
 cases e2
 exact ⟨ρ,δ,h,ds,h1,R,S,e1,fun ρ1 H1 p vs T S1 hp r=>k _ _ (bM.step T (.lv S1 r hp))⟩
theorem SFL.ob (h:SFL X e m):SE X e (eOb m):=h.imp fun σ H Q ⟨ρ,δ,h,d,h',R,S,e,k⟩=>by
 obtain ⟨⟨ds,h1⟩,e1,e2⟩:=mpd e
 cases e2
 exact ⟨ρ,δ,h,ds,h1,R,S,e1,fun ρ1 H1 p vs T S1 hp r=>k _ _ (bM.step T (.ob S1 r hp))⟩
theorem cg {n:Nat} (h:SA X es m) (hl:iL m n) (hn:n≤sizeLine:=by decide):SFL X (.List es pos) m:=(yt h).imp fun σ H Q ⟨ρ,δ,h,ds,h',R,S,e,k⟩=>
 ⟨ρ,δ,h,ds,h',R,S,e,fun vs ρ1 H1 T1 S1 r1=>⟨by rw [r1.length,hl _ _ _ _ e];exact hn,fun p hp=>k ρ1 H1 p vs T1 S1 hp r1⟩⟩
def eDv:EM:=fun _ h=>some (.dv [],h)
def eDo:EM:=fun _ h=>some (.ob h.length,h++[.dct []])
theorem w5:SE X (.Dict [] [] pos) eDv:=nC.imp fun σ H Q ⟨ρ,δ,h,d,h',R,S,e,k⟩ p hp=>by
 cases e
 exact k _ _ (.dv S .nil hp)
theorem sU:SE X (.Dict [] [] pos) eDo:=nC.imp fun σ H Q ⟨ρ,δ,h,d,h',R,S,e,k⟩ p hp=>by
 cases e
 exact k _ _ (.obD S .nil hp)
theorem sN (h:ST X a mt):ST X (.UnaryOp .Not a pos) (qL mt):=(yf h).imp fun σ H Q ⟨ρ,δ,h,c,h',R,S,e,k⟩=>by
 obtain ⟨⟨x,h1⟩,e1,e2⟩:=mpd e
 cases e2
 exact ⟨ρ,δ,h,x,h1,R,S,e1,fun ρ' H' T S'=>k ρ' H' T S'⟩
theorem lI (h:ST X a mt):SW X (.BoolOp .And [a] pos) mt:=vG h
theorem oC (h:ST X a mt):SW X (.BoolOp .Or [a] pos) mt:=yd h
theorem oD {rest:List Expr} (ha:ST X a mt) (hb:SW X (.BoolOp .And (b::rest) pos) mu):SW X (.BoolOp .And (a::b::rest) pos) (mW mt mu):=(ye ha hb).imp fun σ H Q ⟨ρ,δ,h,c,h',R,S,e,k⟩=>by
 obtain ⟨⟨x,h1⟩,e1,e2⟩:=bnd e
 refine ⟨ρ,δ,h,x,h1,R,S,e1,fun ρ' H' T S'=>?_⟩
 cases x with
 | true=>rw [if_pos rfl] at e2 ⊢;exact ⟨ρ',δ,h1,c,h',R.mono T,S',e2,fun ρ2 H2 T2 S2=>k ρ2 H2 (T.trans T2) S2⟩
 | false=>rw [if_neg (by simp)] at e2 ⊢;cases e2;exact k ρ' H' T S'
theorem sJ {rest:List Expr} (ha:ST X a mt) (hb:SW X (.BoolOp .Or (b::rest) pos) mu):SW X (.BoolOp .Or (a::b::rest) pos) (tOr mt mu):=(Ah ha hb).imp fun σ H Q ⟨ρ,δ,h,c,h',R,S,e,k⟩=>by
 obtain ⟨⟨x,h1⟩,e1,e2⟩:=bnd e
 refine ⟨ρ,δ,h,x,h1,R,S,e1,fun ρ' H' T S'=>?_⟩
 cases x with
 | false=>rw [if_neg (by simp)] at e2 ⊢;exact ⟨ρ',δ,h1,c,h',R.mono T,S',e2,fun ρ2 H2 T2 S2=>k ρ2 H2 (T.trans T2) S2⟩
 | true=>rw [if_pos rfl] at e2 ⊢;cases e2;exact k ρ' H' T S'
theorem SW.st (h:SW X a mt):ST X a mt:=PW.pt h
theorem lO {op} (h:SE X a ma):SE X (.BoolOp op [a] pos) ma:=yq h
theorem xO {rest:List Expr} (ha:SE X a ma) (hb:SE X (.BoolOp .And (b::rest) pos) mb):SE X (.BoolOp .And (a::b::rest) pos) (y7 ma mb):=(yw ha hb).imp fun σ H Q ⟨ρ,δ,h,d,h',R,S,e,k⟩=>by
 obtain ⟨⟨x,h1⟩,e1,e2⟩:=bnd e
 obtain ⟨c,rfl,e2⟩:=uS e2
 refine ⟨ρ,δ,h,.bl c,h1,R,S,e1,fun v H' ⟨ρ',T,S',r⟩=>?_⟩
 cases r
 refine ⟨c,rfl,?_⟩
 cases c with
 | true=>rw [if_pos rfl] at e2 ⊢;exact ⟨ρ',δ,h1,d,h',R.mono T,S',e2,fun v H2 p=>k v H2 (p.step T)⟩
 | false=>rw [if_neg (by simp)] at e2 ⊢;cases e2;exact k _ _ ⟨ρ',T,S',.bl _⟩
theorem wZ {rest:List Expr} (ha:SE X a ma) (hb:SE X (.BoolOp .Or (b::rest) pos) mb):SE X (.BoolOp .Or (a::b::rest) pos) (eOr ma mb):=(Ak ha hb).imp fun σ H Q ⟨ρ,δ,h,d,h',R,S,e,k⟩=>by
 obtain ⟨⟨x,h1⟩,e1,e2⟩:=bnd e
 obtain ⟨c,rfl,e2⟩:=uS e2
 refine ⟨ρ,δ,h,.bl c,h1,R,S,e1,fun v H' ⟨ρ',T,S',r⟩=>?_⟩
 cases r
 refine ⟨c,rfl,?_⟩
 cases c with
 | false=>rw [if_neg (by simp)] at e2 ⊢;exact ⟨ρ',δ,h1,d,h',R.mono T,S',e2,fun v H2 p=>k v H2 (p.step T)⟩
 | true=>rw [if_pos rfl] at e2 ⊢;cases e2;exact k _ _ ⟨ρ',T,S',.bl _⟩
def BS (a:EM):EM:=fun δ h=>(a δ h).bind fun p=>match p.1 with
 | .bl c=>some (.bl (!c),p.2)
 | _=>none
theorem zO (hc:ST X c mt) (ha:SE X a ma) (hb:SE X b mb):SE X (.IfExp c a b pos) (eIf mt ma mb):=(tQ hc ha hb).imp fun σ H Q ⟨ρ,δ,h,d,h',R,S,e,k⟩=>by
 obtain ⟨⟨x,h1⟩,e1,e2⟩:=bnd e
 refine ⟨ρ,δ,h,x,h1,R,S,e1,fun ρ' H' T S'=>?_⟩
 cases x with
 | true=>rw [if_pos rfl] at e2 ⊢;exact ⟨ρ',δ,h1,d,h',R.mono T,S',e2,fun v H2 p=>k v H2 (p.step T)⟩
 | false=>rw [if_neg (by simp)] at e2 ⊢;exact ⟨ρ',δ,h1,d,h',R.mono T,S',e2,fun v H2 p=>k v H2 (p.step T)⟩
def oB (d:D) (h:MH):Option Bool:=match d with
 | .non=>some false
 | .bl b=>some b
 | .int i=>some (i !=0)
 | .str x=>if x.length≤sizeLine then some ((x.length:Int) !=0) else none
 | .tup xs=>some (!xs.isEmpty)
 | .dv kvs=>some (!kvs.isEmpty)
 | .ob n=>match h[n]? with
  | some (.lst xs)=>some (!xs.isEmpty)
  | some (.dct kvs)=>some (!kvs.isEmpty)
  | none=>none
 | .lv xs=>some (!xs.isEmpty)
 | .ro xs=>some (!xs.isEmpty)
 | .ty _=>none
def sE (a:EM):TM:=fun δ h=>(a δ h).bind fun p=>(oB p.1 p.2).map fun c=>(c,p.2)
theorem RepK.isEmpty {K:PySem.W.Frag} {ρ:Ad} {H:Hp} {us:List (Key×V)} {ds:List (Key×D)} (t:RepK K ρ H us ds):us.isEmpty=ds.isEmpty:=by cases t <;> rfl
theorem pP {K:PySem.W.Frag} {ρ:Ad} {H:Hp} {h:MH} {v:V} {d:D} {c:Bool} (S:Sim K ρ h H) (r:Rep K ρ H v d) (e:oB d h=some c):wU K v H c:=by
 cases r with
 | non=>cases e;exact rfl
 | bl b=>cases e;exact rfl
 | int i=>cases e;exact rfl
 | str hs=>
  unfold oB at e
  by_cases z:‹Str›.length≤sizeLine
  ·simp only [if_pos z] at e;cases e;exact ⟨z,rfl⟩
  ·simp only [if_neg z] at e;cases e
 | ty n=>cases e
 | tup ht l=>cases e;exact .inr (.inl ⟨_,ht.sq,by rw [l.isEmpty]⟩)
 | lv ht n l=>cases e;exact .inl ⟨_,SqL.of ht,by rw [l.isEmpty]⟩
 | ro ht l=>cases e;exact .inl ⟨_,ht.sq,by rw [l.isEmpty]⟩
 | dv ht n l=>cases e;exact .inr (.inr ⟨_,ht,by rw [l.isEmpty]⟩)
 | ob hn=>
  unfold oB at e
  rename_i a n
  cases q:h[n]? with
  | none=>simp only [q] at e;cases e
  | some o=>
   have x:=S.at_ n a o hn q
   cases o with
   | lst ds=>simp only [q] at e;cases e;obtain ⟨vs,e1,l⟩:=x;exact .inl ⟨_,SqL.of e1,by rw [l.isEmpty]⟩
   | dct ds=>simp only [q] at e;cases e;obtain ⟨vs,e1,l⟩:=x;exact .inr (.inr ⟨_,e1,by rw [l.isEmpty]⟩)
theorem oF (ha:SE X a ma) (he:∀whole,isTrue a X.env whole=(do let v←whole;standAt a.pos;holding [v] (truthy v)):=by intro _;kernel_rfl):ST X a (sE ma):=(tE ha he).imp fun σ H Q ⟨ρ,δ,h,c,h',R,S,e,k⟩=>by
 obtain ⟨⟨x,h1⟩,e1,e2⟩:=bnd e
 obtain ⟨c',e3,e4⟩:=mpd e2
 cases e4
 exact ⟨ρ,δ,h,x,h1,R,S,e1,fun v H' ⟨ρ',T,S',r⟩=>⟨c,pP S' r e3,k ρ' H' T S'⟩⟩
end
end Sm
namespace Sm
open PySem L2
mutual
def cQ:D→D→Bool
 | .non,.non=>true
 | .bl a,.bl b=>a==b
 | .int a,.int b=>a==b
 | .str a,.str b=>decide (a=b)
 | .ty a,.ty b=>a==b
 | .tup a,.tup b=>jP a b
 | .lv a,.lv b=>jP a b
 | .ro a,.ro b=>jP a b
 | .dv a,.dv b=>mK a b
 | .ob a,.ob b=>a==b
 | _,_=>false
def jP:List D→List D→Bool
 | [],[]=>true
 | a::r,b::s=>cQ a b&&jP r s
 | _,_=>false
def mK:List (Key×D)→List (Key×D)→Bool
 | [],[]=>true
 | (k,a)::r,(j,b)::s=>decide (k=j)&&cQ a b&&mK r s
 | _,_=>false
end
mutual
theorem qB:∀(a b:D),cQ a b=true→a=b
 | .non,b,h=>by cases b <;> first | rfl | simp [cQ] at h
 | .bl x,b,h=>by cases b <;> simp [cQ] at h;rw [h]
 | .int x,b,h=>by cases b <;> simp [cQ] at h;rw [h]
 | .str x,b,h=>by cases b <;> simp [cQ] at h;rw [h]
 | .ty x,b,h=>by cases b <;> simp [cQ] at h;rw [h]
 | .ob x,b,h=>by cases b <;> simp [cQ] at h;rw [h]
 | .tup x,b,h=>by cases b <;> simp [cQ] at h;rw [gG _ _ h]
 | .lv x,b,h=>by cases b <;> simp [cQ] at h;rw [gG _ _ h]
 | .ro x,b,h=>by cases b <;> simp [cQ] at h;rw [gG _ _ h]
 | .dv x,b,h=>by cases b <;> simp [cQ] at h;rw [mJ _ _ h]
theorem gG:∀(a b:List D),jP a b=true→a=b
 | [],b,h=>by cases b <;> first | rfl | simp [jP] at h
 | x::r,b,h=>by
  cases b with
  | nil=>simp [jP] at h
  | cons y s=>simp [jP] at h;rw [qB _ _ h.1,gG _ _ h.2]
theorem mJ:∀(a b:List (Key×D)),mK a b=true→a=b
 | [],b,h=>by cases b <;> first | rfl | simp [mK] at h
 | (k,x)::r,b,h=>by
  cases b with
  | nil=>simp [mK] at h
  | cons y s=>
   obtain ⟨j,y⟩:=y
   simp [mK] at h
   rw [h.1.1,qB _ _ h.1.2,mJ _ _ h.2]
end
mutual
theorem lz:∀(a:D),cQ a a=true
 | .non=>rfl
 | .bl x=>by simp [cQ]
 | .int x=>by simp [cQ]
 | .str x=>by simp [cQ]
 | .ty x=>by simp [cQ]
 | .ob x=>by simp [cQ]
 | .tup x=>by simp [cQ];exact dF x
 | .lv x=>by simp [cQ];exact dF x
 | .ro x=>by simp [cQ];exact dF x
 | .dv x=>by simp [cQ];exact ic x
theorem dF:∀(a:List D),jP a a=true
 | []=>rfl
 | x::r=>by simp [jP];exact ⟨lz x,dF r⟩
theorem ic:∀(a:List (Key×D)),mK a a=true
 | []=>rfl
 | (k,x)::r=>by simp [mK];exact ⟨lz x,ic r⟩
end
def uT:MO→MO→Bool
 | .lst a,.lst b=>jP a b
 | .dct a,.dct b=>mK a b
 | _,_=>false
theorem qz {a b:MO} (h:uT a b=true):a=b:=by
 cases a <;> cases b <;> simp [uT] at h
 ·rw [gG _ _ h]
 ·rw [mJ _ _ h]
theorem ly (a:MO):uT a a=true:=by
 cases a with
 | lst x=>exact dF x
 | dct x=>exact ic x
def mL:MH→MH→Bool
 | [],[]=>true
 | a::r,b::s=>uT a b&&mL r s
 | _,_=>false
theorem qA:∀{a b:MH},mL a b=true→a=b
 | [],b,h=>by cases b <;> first | rfl | simp [mL] at h
 | x::r,b,h=>by
  cases b with
  | nil=>simp [mL] at h
  | cons y s=>simp [mL] at h;rw [qz h.1,qA h.2]
theorem ie:∀(a:MH),mL a a=true
 | []=>rfl
 | x::r=>by simp [mL];exact ⟨ly x,ie r⟩
def gj:SM:=fun δ h=>some (.nx,δ,h)
def xQ:SM:=fun δ h=>some (.bk,δ,h)
def zP:SM:=fun δ h=>some (.ct,δ,h)
def aF (a b:SM):SM:=fun δ h=>(a δ h).bind fun r=>match r.1 with
 | .nx=>b r.2.1 r.2.2
 | _=>some r
def aW (i:Nat) (e:EM):SM:=fun δ h=>(e δ h).bind fun p=>some (.nx,δ.set i (some p.1),p.2)
def eW (e:EM) (g:GM):SM:=fun δ h=>(e δ h).bind fun p=>(g p.1 δ p.2).bind fun q=>some (.nx,q.1,q.2)
def gk (e:EM):SM:=fun δ h=>(e δ h).bind fun p=>some (.nx,δ,p.2)
def cB (e:EM):SM:=fun δ h=>(e δ h).bind fun p=>some (.rt p.1,δ,p.2)
def sIf (t:TM) (a b:SM):SM:=fun δ h=>(t δ h).bind fun p=>if p.1 then a δ p.2 else b δ p.2
def gN (i:Nat):GM:=fun d δ h=>some (δ.set i (some d),h)
abbrev GMs:=List D→DS→MH→Option (DS×MH)
def cY:GMs:=fun ds δ h=>match ds with
 | []=>some (δ,h)
 | _=>none
def aD (g:GM) (u:GMs):GMs:=fun ds δ h=>match ds with
 | []=>none
 | d::r=>(g d δ h).bind fun p=>u r p.1 p.2
def gT (n:Nat) (u:GMs):GM:=fun d δ h=>match d with
 | .tup xs=>if xs.length=n then u xs δ h else none
 | _=>none
abbrev W:=List (Nat×MO)
abbrev IM:=DS→MH→Option (List D×W×MH)
def chk:W→MH→Bool
 | [],_=>true
 | (n,o)::r,h=>(match h[n]? with | some u=>uT u o | none=>false)&&chk r h
def eF (ws:W) (g:GM) (b:SM):List D→SM
 | [],δ,h=>if chk ws h then some (.nx,δ,h) else none
 | x::r,δ,h=>if chk ws h then (g x δ h).bind fun q=>(b q.1 q.2).bind fun z=>match z.1 with
  | .nx=>eF ws g b r z.2.1 z.2.2
  | .ct=>eF ws g b r z.2.1 z.2.2
  | .bk=>some (.nx,z.2.1,z.2.2)
  | .rt d=>some (.rt d,z.2.1,z.2.2)
  else none
def eV (i:IM) (g:GM) (b:SM):SM:=fun δ h=>(i δ h).bind fun p=>eF p.2.1 g b p.1 δ p.2.2
def cM (c:TM) (b:SM):Nat→SM
 | 0,_,_=>none
 | n+1,δ,h=>(c δ h).bind fun p=>if p.1 then (b δ p.2).bind fun z=>match z.1 with
   | .nx=>cM c b n z.2.1 z.2.2
   | .ct=>cM c b n z.2.1 z.2.2
   | .bk=>some (.nx,z.2.1,z.2.2)
   | .rt d=>some (.rt d,z.2.1,z.2.2)
  else some (.nx,δ,p.2)
section
variable {X:Cx} {a b c e tg iter:Expr} {es:List Expr} {st:Stmt} {sts rest:List Stmt} {pos:Pos} {ma mb:EM} {mt:TM} {ms mu:SM} {m:AM} {g:GM} {gs:GMs}
theorem c7:SSs X [] gj:=vL.imp fun E σ H ⟨ρ,δ,h,fl,δ',h',R,S,e,k⟩=>by
 cases e
 exact k ρ H (.refl _ _) S σ R
theorem xH:SS X (.Break pos) xQ:=tI.imp fun E σ H ⟨ρ,δ,h,fl,δ',h',R,S,e,k⟩=>by
 cases e
 exact k ρ H (.refl _ _) S σ R
theorem xV {E:Ends} {σ:St} {H:Hp} (hh:tMS X.K (aF ms mu) E σ H):zC (tMS X.K ms) (tMS X.K mu) E σ H:=by
 obtain ⟨ρ,δ,h,fl,δ',h',R,S,e,k⟩:=hh
 obtain ⟨⟨f1,δ1,h1⟩,e1,e2⟩:=bnd e
 cases f1 with
 | nx=>exact ⟨ρ,δ,h,.nx,δ1,h1,R,S,e1,fun ρ1 H1 T1 S1 σ' R'=>⟨ρ1,δ1,h1,fl,δ',h',R',S1,e2,fun ρ2 H2 T2 S2=>k ρ2 H2 (T1.trans T2) S2⟩⟩
 | bk=>cases e2;exact ⟨ρ,δ,h,.bk,_,_,R,S,e1,fun ρ1 H1 T1 S1=>k ρ1 H1 T1 S1⟩
 | ct=>cases e2;exact ⟨ρ,δ,h,.ct,_,_,R,S,e1,fun ρ1 H1 T1 S1=>k ρ1 H1 T1 S1⟩
 | rt d=>cases e2;exact ⟨ρ,δ,h,.rt d,_,_,R,S,e1,fun ρ1 H1 T1 S1=>k ρ1 H1 T1 S1⟩
theorem aj (h1:SS X st ms) (h2:SSs X rest mu):SSs X (st::rest) (aF ms mu):=(tF h1 h2).imp fun _ _ _=>xV
theorem aw (h1:SS X st ms):SSs X [st] ms:=p6 h1
theorem xU {E:Ends} {σ:St} {H:Hp} {i:Nat} (hh:tMS X.K (aW i ma) E σ H):xE (tM X.K ma) (ql i) E σ H:=by
 obtain ⟨ρ,δ,h,fl,δ',h',R,S,e,k⟩:=hh
 obtain ⟨⟨x,h1⟩,e1,e2⟩:=bnd e
 cases e2
 exact ⟨ρ,δ,h,x,h1,R,S,e1,fun v H1 ⟨ρ1,T1,S1,r1⟩=>k ρ1 H1 T1 S1 _ ((R.mono T1).set r1 i)⟩
theorem xG {i:Nat} {x:Str} {pos':Pos} (hN:X.N.Nodup) (hi:X.N[i]?=some x) (hx:Loc X.env.scope x) (he:SE X e ma) (hs:swapsWith e (some (.Name x pos')) pos.line X.env=pure false:=by kernel_rfl)
  (hf:X.fn x=true∨X.env.scope.names.lookup x=some .local:=by first | exact .inl rfl | exact .inr rfl | assumption):SS X (.Assign [.Name x pos'] e pos) (aW i ma):=(yg hN hi hx he hs hf).imp fun _ _ _=>xU
theorem ve {i:Nat} {x:Str} (hN:X.N.Nodup) (hi:X.N[i]?=some x) (hx:Loc X.env.scope x) (hf:X.fn x=true∨X.env.scope.names.lookup x=some .local:=by first | exact .inl rfl | exact .inr rfl | assumption):SG X (.Name x pos) (gN i):=
 (p9 hN hi hx hf).imp fun v σ H Q ⟨ρ,δ,h,d,δ',h',R,S,r,e,k⟩=>by
  cases e
  exact k ρ H _ (.refl _ _) S (R.set r i)
inductive TMGsi (K:PySem.W.Frag) (m:GMs) (vs:List V) (σ:L2.St) (H:Hp) (Q:L2.St→Hp→Prop):Prop where
 | mk (ρ δ h ds δ' h'):RepS K ρ H σ δ→Sim K ρ h H→RepL K ρ H vs ds→(m ds δ h=some (δ',h'))→(∀ρ' H' σ',Stp ρ H ρ' H'→Sim K ρ' h' H'→RepS K ρ' H' σ' δ'→Q σ' H')→TMGsi K m vs σ H Q
def Bd (K:PySem.W.Frag) (m:GMs):TGs:=fun vs σ H Q=>TMGsi K m vs σ H Q
def SGs (X:Cx) (es:List Expr) (m:GMs):Prop:=PGs X es (Bd X.K m)
theorem _root_.L2.PGs.imp {X:Cx} {e:List Expr} {t t':TGs} (h:PGs X e t) (i:∀v σ H Q,t' v σ H Q→t v σ H Q):PGs X e t':=fun pins s σ H v u Q I r q=>h pins s σ H v u Q I r (i v σ H Q q)
theorem cR:SGs X [] cY:=vY.imp fun v σ H Q ⟨ρ,δ,h,d,δ',h',R,S,r,e,k⟩=>by
 cases r with
 | nil=>cases e;exact ⟨rfl,k ρ H σ (.refl _ _) S R⟩
 | cons _ _=>cases e
theorem aE (h1:SG X e g) (h2:SGs X es gs) (hs:(assignEach (e::es) X.env).map (·.2)=assign e X.env::(assignEach es X.env).map (·.2):=by kernel_rfl):SGs X (e::es) (aD g gs):=(tL h1 h2 hs).imp fun v σ H Q ⟨ρ,δ,h,d,δ',h',R,S,r,e,k⟩=>by
 cases r with
 | nil=>cases e
 | cons r rs=>
  obtain ⟨⟨δ1,h1⟩,e1,e2⟩:=bnd e
  exact ⟨_,_,rfl,ρ,δ,h,_,δ1,h1,R,S,r,e1,fun ρ1 H1 σ1 T1 S1 R1=>⟨ρ1,δ1,h1,_,δ',h',R1,S1,rs.mono T1,e2,fun ρ2 H2 σ2 T2 S2 R2=>k ρ2 H2 σ2 (T1.trans T2) S2 R2⟩⟩
theorem eP {k0:Nat} {n:Nat} (hc:X.calm=true) (h:SGs X es gs) (hn:(assignEach es X.env).length=n:=by kernel_rfl) (hst:(assignEach es X.env).findIdx? (·.1)=none:=by kernel_rfl):SG X (.Tuple es k0 pos) (gT n gs):=
 (yl hc h hn hst).imp fun v σ H Q ⟨ρ,δ,h,d,δ',h',R,S,r,e,k⟩=>by
  cases r <;> first | (exact absurd e (by intro z;cases z)) | skip
  rename_i a vs ds ht l _
  unfold gT at e
  dsimp only at e
  by_cases z:ds.length=n
  ·rw [if_pos z] at e
   exact ⟨a,vs,rfl,ht.sq,by rw [l.length];exact z,ρ,δ,h,ds,δ',h',R,S,l,e,k⟩
  ·rw [if_neg z] at e;cases e
theorem c8 (he:SE X e ma) (hg:SG X tg g) (hs:swapsWithSole [tg] e pos.line X.env=pure false:=by kernel_rfl) (hw:swappedStores [tg] e X.env=pure none:=by kernel_rfl)
  (h1:(assignEach [tg] X.env).map (·.2)=[assign tg X.env]:=by kernel_rfl):SS X (.Assign [tg] e pos) (eW ma g):=(yi he hg hs hw h1).imp fun E σ H ⟨ρ,δ,h,fl,δ',h',R,S,e,k⟩=>by
 obtain ⟨⟨x,h1⟩,e1,e2⟩:=bnd e
 obtain ⟨⟨δ2,h2⟩,e4,e3⟩:=bnd e2
 cases e3
 exact ⟨ρ,δ,h,x,h1,R,S,e1,fun v H1 ⟨ρ1,T1,S1,r1⟩=>⟨ρ1,δ,h1,x,_,_,R.mono T1,S1,r1,e4,fun ρ2 H2 σ2 T2 S2 R2=>k ρ2 H2 (T1.trans T2) S2 σ2 R2⟩⟩
theorem gg (he:SE X e ma) (hs:swapsWith e none pos.line X.env=pure false:=by kernel_rfl):SS X (.Expr e pos) (gk ma):=(vN he hs).imp fun E σ H ⟨ρ,δ,h,fl,δ',h',R,S,e,k⟩=>by
 obtain ⟨⟨x,h1⟩,e1,e2⟩:=bnd e
 cases e2
 exact ⟨ρ,δ,h,x,h1,R,S,e1,fun v H1 ⟨ρ1,T1,S1,r1⟩=>k ρ1 H1 T1 S1 σ (R.mono T1)⟩
theorem aV (he:SE X e ma):SS X (.Return (some e) pos) (cB ma):=(yh he).imp fun E σ H ⟨ρ,δ,h,fl,δ',h',R,S,e,k⟩=>by
 obtain ⟨⟨x,h1⟩,e1,e2⟩:=bnd e
 cases e2
 exact ⟨ρ,δ,h,x,h1,R,S,e1,fun v H1 ⟨ρ1,T1,S1,r1⟩=>k ρ1 H1 T1 S1 v r1⟩
theorem eO {sa sb:List Stmt} (hc:ST X c mt) (ha:SSs X sa ms) (hb:SSs X sb mu):SS X (.If c sa sb pos) (sIf mt ms mu):=(Ai hc ha hb).imp fun E σ H ⟨ρ,δ,h,fl,δ',h',R,S,e,k⟩=>by
 obtain ⟨⟨x,h1⟩,e1,e2⟩:=bnd e
 refine ⟨ρ,δ,h,x,h1,R,S,e1,fun ρ1 H1 T1 S1=>?_⟩
 cases x with
 | true=>rw [if_pos rfl] at e2 ⊢;exact ⟨ρ1,δ,h1,fl,δ',h',R.mono T1,S1,e2,fun ρ2 H2 T2 S2=>k ρ2 H2 (T1.trans T2) S2⟩
 | false=>rw [if_neg (by simp)] at e2 ⊢;exact ⟨ρ1,δ,h1,fl,δ',h',R.mono T1,S1,e2,fun ρ2 H2 T2 S2=>k ρ2 H2 (T1.trans T2) S2⟩
structure ItS (K:PySem.W.Frag) (J:It) (ρ:Ad) (H:Hp) (ws:W) (xs:List D):Prop where
 run:∀ρ1 H1 h1,Ch ρ H ρ1 H1→Sim K ρ1 h1 H1→chk ws h1=true→∀i:Nat,(xs.length≤i→J.stop i H1)∧∀x,xs[i]?=some x→J.go i H1∧∀v H2,J.yld i H1 v H2→Stp ρ1 H1 ρ1 H2∧Sim K ρ1 h1 H2∧Rep K ρ1 H2 v x
inductive TMIi (K:PySem.W.Frag) (m:IM) (σ:L2.St) (H:Hp) (R:It→Hp→Prop):Prop where
 | mk (ρ δ h xs ws h'):RepS K ρ H σ δ→Sim K ρ h H→(m δ h=some (xs,ws,h'))→(∀J ρ1 H1,Stp ρ H ρ1 H1→Sim K ρ1 h' H1→ItS K J ρ1 H1 ws xs→R J H1)→TMIi K m σ H R
def tMI (K:PySem.W.Frag) (m:IM):TI:=fun σ H R=>TMIi K m σ H R
def SI (X:Cx) (tg iter:Expr) (m:IM):Prop:=PI X tg iter (tMI X.K m)
theorem _root_.L2.PI.imp {X:Cx} {tg e:Expr} {t t':TI} (h:PI X tg e t) (i:∀σ H Q,t' σ H Q→t σ H Q):PI X tg e t':=fun pins s σ H R I q=>h pins s σ H R I (i σ H R q)
theorem xW {E:Ends} {σ:St} {H:Hp} {mi:IM} (hh:tMS X.K (eV mi g ms) E σ H):xy (tMI X.K mi) (tMG X.K g) (tMS X.K ms) E σ H:=by
 obtain ⟨ρ,δ,h,fl,δ',h',R,S,e,k⟩:=hh
 obtain ⟨⟨xs,ws,h1⟩,e1,e2⟩:=bnd e
 refine ⟨ρ,δ,h,xs,ws,h1,R,S,e1,fun J ρ1 H1 T1 S1 It=>?_⟩
 refine ⟨fun i m σ2 H2=>∃ρ2 δ2 h2,m=xs.length-i∧i≤xs.length∧Stp ρ1 H1 ρ2 H2∧RepS X.K ρ2 H2 σ2 δ2∧Sim X.K ρ2 h2 H2∧eF ws g ms (xs.drop i) δ2 h2=some (fl,δ',h'),⟨_,ρ1,δ,h1,rfl,Nat.zero_le _,.refl _ _,R.mono T1,S1,e2⟩,?_⟩
 rintro i m σ2 H2 ⟨ρ2,δ2,h2,rfl,hi,T2,R2,S2,e3⟩
 cases q:xs.drop i with
 | nil=>
  rw [q] at e3
  unfold eF at e3
  by_cases hc:chk ws h2=true
  ·rw [if_pos hc] at e3
   cases e3
   have hl:xs.length≤i:=by have:=congrArg List.length q;rw [List.length_drop,List.length_nil] at this;omega
   exact .inl ⟨(It.run ρ2 H2 _ T2 S2 hc i).1 hl,k ρ2 H2 (T1.trans T2) S2 σ2 R2⟩
  ·rw [if_neg hc] at e3;cases e3
 | cons x r=>
  rw [q] at e3
  unfold eF at e3
  by_cases hc:chk ws h2=true
  ·rw [if_pos hc] at e3
   have hx:xs[i]?=some x:=by
    have:=congrArg (fun l=>l[0]?) q
    simpa using this
   have hlt:i < xs.length:=(List.getElem?_eq_some_iff.mp hx).1
   have hr:xs.drop (i+1)=r:=by
    have:=congrArg List.tail q
    simpa using this
   obtain ⟨⟨δ3,h3⟩,e4,e5⟩:=bnd e3
   obtain ⟨⟨f4,δ4,h4⟩,e6,e7⟩:=bnd e5
   obtain ⟨hgo,hy⟩:=(It.run ρ2 H2 h2 T2 S2 hc i).2 x hx
   have NN:∀ρ5 H5 σ5,Stp ρ2 H2 ρ5 H5→Sim X.K ρ5 h4 H5→RepS X.K ρ5 H5 σ5 δ4→eF ws g ms r δ4 h4=some (fl,δ',h')→
     ∃m',m' < xs.length-i∧(∃ρ2 δ2 h2,m'=xs.length-(i+1)∧i+1≤xs.length∧Stp ρ1 H1 ρ2 H5∧RepS X.K ρ2 H5 σ5 δ2∧Sim X.K ρ2 h2 H5∧eF ws g ms (xs.drop (i+1)) δ2 h2=some (fl,δ',h')):=
    fun ρ5 H5 σ5 T5 S5 R5 e8=>⟨xs.length-(i+1),by omega,ρ5,δ4,h4,rfl,hlt,T2.trans T5,R5,S5,by rw [hr];exact e8⟩
   refine .inr ⟨hgo,fun σ5 H5=>∃ρ5,Stp ρ2 H2 ρ5 H5∧Sim X.K ρ5 h4 H5∧RepS X.K ρ5 H5 σ5 δ4∧eF ws g ms r δ4 h4=some (fl,δ',h'),fun σ5 H5 ⟨ρ5,T5,S5,R5,e8⟩=>NN ρ5 H5 σ5 T5 S5 R5 e8,fun v H3 y3=>?_⟩
   obtain ⟨T3,S3,r3⟩:=hy v H3 y3
   refine ⟨ρ2,δ2,h2,x,δ3,h3,R2.mono T3,S3,r3,e4,fun ρ4 H4 σ4 T4 S4 R4=>?_⟩
   refine ⟨ρ4,δ3,h3,f4,δ4,h4,R4,S4,e6,fun ρ5 H5 T5 S5=>?_⟩
   have T25:Stp ρ2 H2 ρ5 H5:=T3.trans (T4.trans T5)
   cases f4 with
   | nx=>exact fun σ' R'=>⟨ρ5,T25,S5,R',e7⟩
   | ct=>exact fun σ' R'=>⟨ρ5,T25,S5,R',e7⟩
   | bk=>cases e7;exact fun σ' R'=>k ρ5 H5 (T1.trans (T2.trans T25)) S5 σ' R'
   | rt d=>cases e7;exact fun v r=>k ρ5 H5 (T1.trans (T2.trans T25)) S5 v r
  ·rw [if_neg hc] at e3;cases e3
theorem cb {body:List Stmt} {mi:IM} (hp:PassesOwn (model X.prog X.w) X.A X.env X.xe) (hc:X.calm=true) (hi:SI X tg iter mi) (hg:SG X tg g) (hb:SSs X body ms) (hs:∀x,foldedSetIterable iter X.env x=pure x:=by intro _;kernel_rfl):SS X (.For tg iter body [] pos) (eV mi g ms):=
 (tH hp hc hi hg hb hs).imp fun _ _ _=>xW
theorem tf {E:Ends} {σ:St} {H:Hp} {n:Nat} (hh:tMS X.K (cM mt ms n) E σ H):sD (tMT X.K mt) (tMS X.K ms) E σ H:=by
 obtain ⟨ρ,δ,h,fl,δ',h',R,S,e,k⟩:=hh
 refine ⟨fun m σ2 H2=>∃ρ2 δ2 h2,Stp ρ H ρ2 H2∧RepS X.K ρ2 H2 σ2 δ2∧Sim X.K ρ2 h2 H2∧cM mt ms m δ2 h2=some (fl,δ',h'),⟨n,ρ,δ,h,.refl _ _,R,S,e⟩,?_⟩
 rintro m σ2 H2 ⟨ρ2,δ2,h2,T2,R2,S2,e2⟩
 cases m with
 | zero=>cases e2
 | succ m=>
  obtain ⟨⟨x,h3⟩,e3,e4⟩:=bnd e2
  refine ⟨ρ2,δ2,h2,x,h3,R2,S2,e3,fun ρ3 H3 T3 S3=>?_⟩
  cases x with
  | false=>rw [if_neg (by simp)] at e4 ⊢;cases e4;exact k ρ3 H3 (T2.trans T3) S3 σ2 (R2.mono T3)
  | true=>
   rw [if_pos rfl] at e4 ⊢
   obtain ⟨⟨f4,δ4,h4⟩,e5,e6⟩:=bnd e4
   refine ⟨fun σ5 H5=>∃ρ5,Stp ρ3 H3 ρ5 H5∧Sim X.K ρ5 h4 H5∧RepS X.K ρ5 H5 σ5 δ4∧cM mt ms m δ4 h4=some (fl,δ',h'),fun σ5 H5 ⟨ρ5,T5,S5,R5,e8⟩=>⟨m,Nat.lt_succ_self m,ρ5,δ4,h4,T2.trans (T3.trans T5),R5,S5,e8⟩,?_⟩
   refine ⟨ρ3,δ2,h3,f4,δ4,h4,R2.mono T3,S3,e5,fun ρ5 H5 T5 S5=>?_⟩
   cases f4 with
   | nx=>exact fun σ' R'=>⟨ρ5,T5,S5,R',e6⟩
   | ct=>exact fun σ' R'=>⟨ρ5,T5,S5,R',e6⟩
   | bk=>cases e6;exact fun σ' R'=>k ρ5 H5 (T2.trans (T3.trans T5)) S5 σ' R'
   | rt d=>cases e6;exact fun v r=>k ρ5 H5 (T2.trans (T3.trans T5)) S5 v r
theorem sO {body:List Stmt} {n:Nat} (hp:PassesOwn (model X.prog X.w) X.A X.env X.xe) (hc:ST X c mt) (hb:SSs X body ms):SS X (.While c body [] pos) (cM mt ms n):=(tG hp hc hb).imp fun _ _ _=>tf
end
end Sm
namespace L2
open PySem PySem.Spec PyProof.Rows
theorem yk {X:Cx} {tg:Expr} {l:Expr} {tl:TE} (hl:PE X l tl):PI X tg l (fun σ H R=>tl σ H fun x H1=>∃a,x=.ref a∧(((∃xs,SqL X.K H1 a xs)∧R (Itl X.K a) H1)∨((∃xs,SqT X.K H1 a xs)∧R (Itt X.K a) H1))):=by
 intro pins s σ H R I h
 refine thn (hl pins s σ H _ I h) fun v s1 ⟨x,H1,I1,r1,q1⟩=>?_
 obtain ⟨a,e,q1⟩:=q1
 subst e
 cases r1
 rcases q1 with ⟨⟨xs,hq⟩,q⟩ | ⟨⟨xs,hq⟩,q⟩
 ·obtain ⟨its,rv,p,hz⟩:=I1.list hq
  refine wpAny_pyIter_list p.isList ?_
  refine ⟨s1.heap.objs.size,[s1.heap.objs.size],_,_,H1,rfl,I1.kept (t':=s1.toks) fun b o e=>Heap.get?_push_of_some _ e,qH a _,⟨_,Heap.get?_push_size _ rfl,rfl,rfl⟩,fun b hb=>?_,q⟩
  have e:b=s1.heap.objs.size:=by simpa using hb
  subst e
  exact I1.kd (Nat.le_refl _) (I1.hok.fresh (Nat.le_refl _))
 ·obtain ⟨its,rv,p,hz⟩:=I1.tuple hq
  refine wpAny_pyIter_tuple (show s1.heap.IsTuple a its.toArray from p) ?_
  refine ⟨s1.heap.objs.size,[s1.heap.objs.size],_,_,H1,rfl,I1.kept (t':=s1.toks) fun b o e=>Heap.get?_push_of_some _ e,oy a _,⟨_,Heap.get?_push_size _ rfl,rfl,rfl⟩,fun b hb=>?_,q⟩
  have e:b=s1.heap.objs.size:=by simpa using hb
  subst e
  exact I1.kd (Nat.le_refl _) (I1.hok.fresh (Nat.le_refl _))
end L2
namespace Sm
open PySem L2
def bR (d:D) (h:MH):Option (List D×W):=match d with
 | .lv xs=>some (xs,[])
 | .ro xs=>some (xs,[])
 | .tup xs=>some (xs,[])
 | .ob n=>match h[n]? with
  | some (.lst xs)=>some (xs,[(n,.lst xs)])
  | _=>none
 | _=>none
def eD (e:EM):IM:=fun δ h=>(e δ h).bind fun p=>(bR p.1 p.2).map fun q=>(q.1,q.2,p.2)
def iH (m:AM):IM:=fun δ h=>(m δ h).bind fun p=>match p.1 with
 | [.int j]=>if -(2^62)≤j∧j < 2^62 then some ((List.range j.toNat).map fun (k:Nat)=>D.int (k:Int),[],p.2) else none
 | [.int i,.int j]=>if -(2^62)≤i∧i < 2^62∧-(2^62)≤j∧j < 2^62 then some ((List.range (j-i).toNat).map fun (k:Nat)=>D.int (i+(k:Int)),[],p.2) else none
 | _=>none
section
variable {K:PySem.W.Frag} {ρ:Ad} {H:Hp} {h:MH} {a:Addr} {vs:List V} {xs:List D}
theorem ph {J:It} {ws:W} (hl:∀ρ1 H1 h1,Ch ρ H ρ1 H1→Sim K ρ1 h1 H1→chk ws h1=true→∃vs,RepL K ρ1 H1 vs xs∧(∀i:Nat,vs.length≤i→J.stop i H1)∧∀(i:Nat) v,vs[i]?=some v→J.go i H1∧∀u H2,J.yld i H1 u H2→H2=H1∧u=v):ItS K J ρ H ws xs:=by
 refine ⟨fun ρ1 H1 h1 T S hc i=>?_⟩
 obtain ⟨vs,l,s1,s2⟩:=hl ρ1 H1 h1 T S hc
 refine ⟨fun hi=>s1 i (by rw [l.length];exact hi),fun x hx=>?_⟩
 obtain ⟨v,hv,r⟩:=l.got hx
 obtain ⟨g,y⟩:=s2 i v hv
 refine ⟨g,fun u H2 yy=>?_⟩
 obtain ⟨rfl,rfl⟩:=y u H2 yy
 exact ⟨.refl _ _,S,r⟩
theorem yU {ws:W} (hl:∀ρ1 H1 h1,Ch ρ H ρ1 H1→Sim K ρ1 h1 H1→chk ws h1=true→∃vs,RepL K ρ1 H1 vs xs∧SqL K H1 a vs):ItS K (Itl K a) ρ H ws xs:=
 ph fun ρ1 H1 h1 T S hc=>by
  obtain ⟨vs,l,q⟩:=hl ρ1 H1 h1 T S hc
  refine ⟨vs,l,fun i hi=>⟨vs,q,hi⟩,fun i v hv=>⟨⟨vs,v,q,hv⟩,fun u H2 ⟨e,y⟩=>⟨e,?_⟩⟩⟩
  have:=y vs q
  rw [hv] at this
  exact (Option.some.inj this).symm
theorem yT {ws:W} (hl:∀ρ1 H1 h1,Ch ρ H ρ1 H1→Sim K ρ1 h1 H1→chk ws h1=true→∃vs,RepL K ρ1 H1 vs xs∧SqT K H1 a vs):ItS K (Itt K a) ρ H ws xs:=
 ph fun ρ1 H1 h1 T S hc=>by
  obtain ⟨vs,l,q⟩:=hl ρ1 H1 h1 T S hc
  refine ⟨vs,l,fun i hi=>⟨vs,q,hi⟩,fun i v hv=>⟨⟨vs,v,q,hv⟩,fun u H2 ⟨e,y⟩=>⟨e,?_⟩⟩⟩
  have:=y vs q
  rw [hv] at this
  exact (Option.some.inj this).symm
theorem wL {n:Nat} {o:MO} {h:MH} (hc:chk [(n,o)] h=true):h[n]?=some o:=by
 unfold chk at hc
 cases q:h[n]? with
 | none=>rw [q] at hc;cases hc
 | some u=>
  rw [q] at hc
  simp [chk] at hc
  rw [qz hc]
inductive SeqAt (K:PySem.W.Frag) (H:Hp) (a:Addr) (vs:List V):Bool→Prop where
 | l:SqL K H a vs→SeqAt K H a vs true
 | t:SqT K H a vs→SeqAt K H a vs false
def kc:D→Bool
 | .tup _=>false
 | _=>true
theorem gP {v:V} {d:D} {ws:W} (S:Sim K ρ h H) (r:Rep K ρ H v d) (e:bR d h=some (xs,ws)):∃a,v=.ref a∧(∃vs,SeqAt K H a vs (kc d)∧RepL K ρ H vs xs)∧
  ∀ρ1 H1 h1,Ch ρ H ρ1 H1→Sim K ρ1 h1 H1→chk ws h1=true→∃vs,RepL K ρ1 H1 vs xs∧SeqAt K H1 a vs (kc d):=by
 cases r with
 | tup ht l=>
  cases e
  refine ⟨_,rfl,⟨_,.t ht.sq,l⟩,fun ρ1 H1 h1 T S1 _=>?_⟩
  cases (Rep.tup ht l).mono T with
  | tup h1 l1=>exact ⟨_,l1,.t h1.sq⟩
 | lv ht n l=>
  cases e
  refine ⟨_,rfl,⟨_,.l (SqL.of ht),l⟩,fun ρ1 H1 h1 T S1 _=>?_⟩
  cases (Rep.lv ht n l).mono T with
  | lv h1 _ l1=>exact ⟨_,l1,.l (SqL.of h1)⟩
 | ro ht l=>
  cases e
  refine ⟨_,rfl,⟨_,.l ht.sq,l⟩,fun ρ1 H1 h1 T S1 _=>?_⟩
  cases (Rep.ro ht l).mono T with
  | ro h1 l1=>exact ⟨_,l1,.l h1.sq⟩
 | @ob a n hn=>
  unfold bR at e
  dsimp only at e
  cases q:h[n]? with
  | none=>rw [q] at e;cases e
  | some o=>
   rw [q] at e
   cases o with
   | dct _=>cases e
   | lst ys=>
    cases e
    obtain ⟨vs,e1,l⟩:=S.at_ n a _ hn q
    refine ⟨a,rfl,⟨vs,.l (SqL.of e1),l⟩,fun ρ1 H1 h1 T S1 hc=>?_⟩
    obtain ⟨us,e2,l2⟩:=S1.at_ n a _ (T.pre n a hn) (wL hc)
    exact ⟨us,l2,.l (SqL.of e2)⟩
 | non=>cases e
 | bl b=>cases e
 | int i=>cases e
 | str x=>cases e
 | ty x=>cases e
 | dv _ _ _=>cases e
end
section
variable {X:Cx} {a b c e tg iter:Expr} {es:List Expr} {pos:Pos} {ma mb:EM} {mt:TM} {ms mu:SM} {m:AM} {g:GM} {gs:GMs}
theorem cc (h:SE X e ma):SI X tg e (eD ma):=(yk h).imp fun σ H Q ⟨ρ,δ,h,xs,ws,h',R,S,e,k⟩=>by
 obtain ⟨⟨x,h1⟩,e1,e2⟩:=bnd e
 obtain ⟨⟨ys,w⟩,e3,e4⟩:=mpd e2
 cases e4
 refine ⟨ρ,δ,h,x,h1,R,S,e1,fun v H1 ⟨ρ1,T1,S1,r1⟩=>?_⟩
 obtain ⟨a,rfl,⟨vs,q,l⟩,st⟩:=gP S1 r1 e3
 refine ⟨a,rfl,?_⟩
 generalize kc x=b at q st
 cases q with
 | l q=>exact .inl ⟨⟨vs,q⟩,k _ ρ1 H1 T1 S1 (yU fun ρ2 H2 h2 T2 S2 hc=>by obtain ⟨us,l2,q2⟩:=st ρ2 H2 h2 T2 S2 hc;cases q2 with | l q2=>exact ⟨us,l2,q2⟩)⟩
 | t q=>exact .inr ⟨⟨vs,q⟩,k _ ρ1 H1 T1 S1 (yT fun ρ2 H2 h2 T2 S2 hc=>by obtain ⟨us,l2,q2⟩:=st ρ2 H2 h2 T2 S2 hc;cases q2 with | t q2=>exact ⟨us,l2,q2⟩)⟩
theorem gW {K:PySem.W.Frag} {ρ:Ad} {H:Hp}:∀(ns:List Int),RepL K ρ H (ns.map V.int) (ns.map D.int)
 | []=>.nil
 | _::r=>.cons (.int _) (gW r)
theorem ua {K:PySem.W.Frag} {ρ:Ad} {H:Hp} (lo:Int) (n:Nat):ItS K (Itr lo n) ρ H [] ((List.range n).map fun (k:Nat)=>D.int (lo+(k:Int))):=by
 refine ph fun ρ1 H1 h1 T S hc=>⟨(List.range n).map fun (k:Nat)=>V.int (lo+(k:Int)),?_,fun i hi=>?_,fun i v hv=>?_⟩
 ·have:=gW (K:=K) (ρ:=ρ1) (H:=H1) ((List.range n).map fun (k:Nat)=>lo+(k:Int))
  rw [List.map_map,List.map_map] at this
  exact this
 ·rw [List.length_map,List.length_range] at hi;exact hi
 ·rw [List.getElem?_map] at hv
  obtain ⟨j,e1,e2⟩:=mpd hv
  obtain ⟨hlt,e3⟩:=List.getElem?_eq_some_iff.mp e1
  rw [List.length_range] at hlt
  rw [List.getElem_range] at e3
  subst e3;subst e2
  exact ⟨hlt,fun u H2 ⟨p,q⟩=>⟨p,q⟩⟩
theorem qX {K:PySem.W.Frag} {ρ:Ad} {H:Hp} {vs:List V} {j:Int} (l:RepL K ρ H vs [.int j]):vs=[.int j]:=by
 cases l with
 | cons r l=>cases l;cases r;rfl
theorem qW {K:PySem.W.Frag} {ρ:Ad} {H:Hp} {vs:List V} {i j:Int} (l:RepL K ρ H vs [.int i,.int j]):vs=[.int i,.int j]:=by
 cases l with
 | cons r l=>cases l with
  | cons r' l=>cases l;cases r;cases r';rfl
theorem cf {p:Pos} (hg:Gl X "range") (hm:X.mg "range"=none) (ha:SA X [a] m) (hs:starEach [a] X.env=[(false,eval a X.env)]:=by kernel_rfl) (hl:iL m 1):SI X tg (.Call (.Name "range" p) [a] [] pos) (iH m):=
 (rg hg hm ha hs).imp fun σ H Q ⟨ρ,δ,h,xs,ws,h',R,S,e,k⟩=>by
  obtain ⟨⟨x,h1⟩,e1,e2⟩:=bnd e
  refine ⟨ρ,δ,h,x,h1,R,S,e1,fun vs ρ1 H1 T1 S1 r1=>?_⟩
  match x,hl _ _ _ _ e1,e2,r1 with
  | [d],hl1,e2,r1=>
   cases d <;> first | exact absurd e2 (by intro z;cases z) | skip
   rename_i j
   dsimp only at e2
   by_cases z:-(2^62)≤j∧j < 2^62
   ·rw [if_pos z] at e2
    cases e2
    refine ⟨j,qX r1,z.1,z.2,k _ ρ1 H1 T1 S1 ?_⟩
    have:=ua (K:=X.K) (ρ:=ρ1) (H:=H1) 0 j.toNat
    simpa using this
   ·rw [if_neg z] at e2;cases e2
theorem qR {p:Pos} (hg:Gl X "range") (hm:X.mg "range"=none) (ha:SA X [a,b] m) (hs:starEach [a,b] X.env=[(false,eval a X.env),(false,eval b X.env)]:=by kernel_rfl) (hs2:starEach [b] X.env=[(false,eval b X.env)]:=by kernel_rfl) (hl:iL m 2):
  SI X tg (.Call (.Name "range" p) [a,b] [] pos) (iH m):=
 (rf hg hm ha hs hs2).imp fun σ H Q ⟨ρ,δ,h,xs,ws,h',R,S,e,k⟩=>by
  obtain ⟨⟨x,h1⟩,e1,e2⟩:=bnd e
  refine ⟨ρ,δ,h,x,h1,R,S,e1,fun vs ρ1 H1 T1 S1 r1=>?_⟩
  match x,hl _ _ _ _ e1,e2,r1 with
  | [d,d'],hl1,e2,r1=>
   cases d <;> first | exact absurd e2 (by intro z;cases z) | skip
   cases d' <;> first | exact absurd e2 (by intro z;cases z) | skip
   rename_i i j
   dsimp only at e2
   by_cases z:-(2^62)≤i∧i < 2^62∧-(2^62)≤j∧j < 2^62
   ·rw [if_pos z] at e2
    cases e2
    exact ⟨i,j,qW r1,z,k _ ρ1 H1 T1 S1 (ua i _)⟩
   ·rw [if_neg z] at e2;cases e2
def ff (caps:List (Option Nat)) (δ:DS):DS:=caps.map fun o=>o.bind fun i=>(δ[i]?).join
def fF:TM:=fun _ h=>some (true,h)
def cI (ws:W) (g:GM) (c:TM) (e:EM):List D→DS→MH→Option (List D×MH)
 | [],_,h=>if chk ws h then some ([],h) else none
 | x::r,δ,h=>if chk ws h then (g x δ h).bind fun q=>(c q.1 q.2).bind fun t=>if t.1 then (e q.1 t.2).bind fun y=>(cI ws g c e r q.1 y.2).map fun z=>(y.1::z.1,z.2) else cI ws g c e r q.1 t.2 else none
def fE (caps:List (Option Nat)) (i:IM) (g:GM) (c:TM) (e:EM):AM:=fun δ h=>(i δ h).bind fun p=>(cI p.2.1 g c e p.1 (ff caps δ) p.2.2).bind fun q=>if q.1.length≤sizeLine then some q else none
theorem RepS.ib {K:PySem.W.Frag} {ρ:Ad} {H:Hp} {σ:St} {δ:DS} (R:RepS K ρ H σ δ) (caps:List (Option Nat)):RepS K ρ H (ib caps σ) (ff caps δ):=by
 refine ⟨by simp [L2.ib,ff],fun i d hd=>?_⟩
 unfold ff at hd
 rw [List.getElem?_map] at hd
 obtain ⟨o,e1,e2⟩:=mpd hd
 cases o with
 | none=>cases e2
 | some j=>
  have e3:δ[j]?=some (some d):=Option.join_eq_some_iff.mp e2
  obtain ⟨v,ev,r⟩:=R.at_ j d e3
  refine ⟨v,?_,r⟩
  unfold L2.ib
  rw [List.getElem?_map,e1]
  simp [ev]
def SIf (X:Cx) (ifs:List Expr) (m:TM):Prop:=PIf X ifs (tMT X.K m)
theorem dH:SIf X [] fF:=fun pins s σ H Q I hh=>by
 obtain ⟨ρ,δ,h,b,h',R,S,e,k⟩:=hh
 cases e
 exact vV pins s σ H Q I (k ρ H (.refl _ _) S)
theorem pU (h:ST X c mt):SIf X [c] mt:=vU h
theorem vp {caps:List (Option Nat)} {mi:IM} {σ:St} {H:Hp} {Q:VK} (hh:tM X.K (eLv (fE caps mi g mt ma)) σ H Q):wX caps (tMI X.K mi) (tMG X.K g) (tMT X.K mt) (tM X.K ma) σ H Q:=by
 obtain ⟨ρ,δ,h,d,h',R,S,ee,k⟩:=hh
 obtain ⟨⟨out,h0⟩,ea,e0⟩:=mpd ee
 cases e0
 obtain ⟨⟨xs,ws,h1⟩,e1,eb⟩:=bnd ea
 obtain ⟨⟨ys,h2⟩,e2,e3⟩:=bnd eb
 dsimp only at e2 e3
 by_cases hz:ys.length≤sizeLine
 ·rw [if_pos hz] at e3
  cases e3
  refine ⟨ρ,δ,h,xs,ws,h1,R,S,e1,fun J ρ1 H1 T1 S1 It l hl=>?_⟩
  have nl:¬ρ1.has l:=S1.fresh hl
  have Tl:Ch ρ1 H1 (ρ1.keep l) (upd H1 l (.lst [])):=Ch.keep hl
  refine ⟨fun i m τ2 H2=>∃(ob2:List Addr) (δ2:DS) (h2:MH) (vs:List V) (as bs:List D),m=xs.length-i∧i≤xs.length∧Ch ρ1 H1 ⟨ob2,l::ρ1.rs⟩ H2∧(∀b∈ρ1.rs,H2 b=H1 b)∧RepS X.K ⟨ob2,l::ρ1.rs⟩ H2 τ2 δ2∧Sim X.K ⟨ob2,l::ρ1.rs⟩ h2 H2∧
    H2 l=some (.lst vs)∧RepL X.K ⟨ob2,l::ρ1.rs⟩ H2 vs as∧out=as++bs∧cI ws g mt ma (xs.drop i) δ2 h2=some (bs,h0),
   ⟨_,ρ1.ob,ff caps δ,h1,[],[],out,rfl,Nat.zero_le _,Tl,fun b hb=>ai fun z=>nl (.inr (z ▸ hb)),((R.mono T1).ib caps).mono Tl,S1.keep hl,ar,.nil,rfl,e2⟩,?_⟩
  rintro i m τ2 H2 ⟨ob2,δ2,h2,vs,as,bs,rfl,hi,T2,rs2,R2,S2,hl2,l2,eo,e3⟩
  have hsub:∀b∈ρ1.rs,b∈l::ρ1.rs:=fun b hb=>List.mem_cons_of_mem _ hb
  have C2:Ch ⟨ob2,l::ρ1.rs⟩ H2 ⟨ob2,ρ1.rs⟩ H2:=Ch.free hsub
  have T2':Stp ρ1 H1 ⟨ob2,ρ1.rs⟩ H2:=⟨T2.trans C2,rfl,rs2⟩
  have S2':Sim X.K ⟨ob2,ρ1.rs⟩ h2 H2:=S2.free hsub
  cases q:xs.drop i with
  | nil=>
   rw [q] at e3
   unfold cI at e3
   by_cases hc:chk ws h2=true
   ·rw [if_pos hc] at e3
    cases e3
    rw [List.append_nil] at eo
    subst eo
    have hle:xs.length≤i:=by have:=congrArg List.length q;rw [List.length_drop,List.length_nil] at this;omega
    refine .inl ⟨(It.run _ H2 _ T2 S2 hc i).1 hle,k _ _ ⟨_,T1.trans T2',S2',.lv hl2 (fun z=>?_) (l2.mono C2)⟩⟩
    rcases z with z | z
    ·exact (S2.rsv l List.mem_cons_self).2 z
    ·exact nl (.inr z)
   ·rw [if_neg hc] at e3;cases e3
  | cons x r=>
   rw [q] at e3
   unfold cI at e3
   by_cases hc:chk ws h2=true
   ·rw [if_pos hc] at e3
    have hx:xs[i]?=some x:=by
     have:=congrArg (fun l=>l[0]?) q
     simpa using this
    have hlt:i < xs.length:=(List.getElem?_eq_some_iff.mp hx).1
    have hr:xs.drop (i+1)=r:=by
     have:=congrArg List.tail q
     simpa using this
    obtain ⟨⟨δ3,h3⟩,e4,e5⟩:=bnd e3
    obtain ⟨⟨t,h4⟩,e6,e7⟩:=bnd e5
    dsimp only at e4 e5 e6 e7
    obtain ⟨hgo,hy⟩:=(It.run _ H2 h2 T2 S2 hc i).2 x hx
    refine .inr ⟨hgo,fun τ5 H5=>∃(ob5:List Addr) (h5:MH) (vs:List V) (as bs:List D),Ch ρ1 H1 ⟨ob5,l::ρ1.rs⟩ H5∧(∀b∈ρ1.rs,H5 b=H1 b)∧RepS X.K ⟨ob5,l::ρ1.rs⟩ H5 τ5 δ3∧Sim X.K ⟨ob5,l::ρ1.rs⟩ h5 H5∧
     H5 l=some (.lst vs)∧RepL X.K ⟨ob5,l::ρ1.rs⟩ H5 vs as∧out=as++bs∧cI ws g mt ma r δ3 h5=some (bs,h0),?_,?_⟩
    ·rintro τ5 H5 ⟨ob5,h5,vs5,as5,bs5,T5,rs5,R5,S5,hl5,l5,eo5,e5⟩
     exact ⟨xs.length-(i+1),by omega,ob5,δ3,h5,vs5,as5,bs5,rfl,hlt,T5,rs5,R5,S5,hl5,l5,eo5,by rw [hr];exact e5⟩
    ·intro v H3 y3
     obtain ⟨T3,S3,r3⟩:=hy v H3 y3
     refine ⟨⟨ob2,l::ρ1.rs⟩,δ2,h2,x,δ3,h3,R2.mono T3,S3,r3,e4,fun ρ4 H4 τ4 T4 S4 R4=>?_⟩
     refine ⟨ρ4,δ3,h3,t,h4,R4,S4,e6,fun ρ5 H5 T5 S5=>?_⟩
     have T25:Stp ⟨ob2,l::ρ1.rs⟩ H2 ρ5 H5:=T3.trans (T4.trans T5)
     obtain ⟨ob5,rs5⟩:=ρ5
     have ers:rs5=l::ρ1.rs:=T25.rs
     subst ers
     cases t with
     | false=>
      rw [if_neg (by simp)] at e7
      refine AI ?_
      exact ⟨ob5,h4,vs,as,bs,T2.trans T25.toCh,fun b hb=>(T25.res b (hsub b hb)).trans (rs2 b hb),R4.mono T5,S5,(T25.res l List.mem_cons_self).trans hl2,l2.mono T25.toCh,eo,e7⟩
     | true=>
      rw [if_pos rfl] at e7
      refine rL ?_
      obtain ⟨⟨y,h6⟩,e8,e9⟩:=bnd e7
      obtain ⟨⟨zs,h7⟩,e10,e11⟩:=mpd e9
      cases e11
      refine ⟨⟨ob5,l::ρ1.rs⟩,δ3,h4,y,h6,R4.mono T5,S5,e8,fun u H6 ⟨ρ6,T6,S6,r6⟩=>?_⟩
      have T26:Stp ⟨ob2,l::ρ1.rs⟩ H2 ρ6 H6:=T25.trans T6
      obtain ⟨ob6,rs6⟩:=ρ6
      have ers:rs6=l::ρ1.rs:=T26.rs
      subst ers
      have hl6:H6 l=some (.lst vs):=(T26.res l List.mem_cons_self).trans hl2
      have hml:l∈(⟨ob6,l::ρ1.rs⟩:Ad).rs:=List.mem_cons_self
      have hlen:vs.length < sizeLine:=by
       have h1:=l2.length
       have h2:=congrArg List.length eo
       rw [List.length_append,List.length_cons] at h2
       omega
      have Cp:Ch ⟨ob6,l::ρ1.rs⟩ H6 ⟨ob6,l::ρ1.rs⟩ (upd H6 l (.lst (vs++[u]))):=Ch.put hml
      refine ⟨vs,hl6,hlen,ob6,h6,vs++[u],as++[y],zs,(T2.trans T26.toCh).trans Cp,fun b hb=>?_,((R4.mono T5.toCh).mono T6.toCh).mono Cp,S6.put hml,ar,((l2.mono T26.toCh).snoc r6).mono Cp,by rw [eo];simp,e10⟩
      rw [ai (fun (z:b=l)=>nl (.inr (z ▸ hb)))]
      exact (T26.res b (hsub b hb)).trans (rs2 b hb)
   ·rw [if_neg hc] at e3;cases e3
 ·rw [if_neg hz] at e3;cases e3
end
end Sm
namespace Sm
open PySem L2 PySem.Spec PyProof.Rows
section
variable {X:Cx} {a b c e tg iter elt:Expr} {es:List Expr} {pos:Pos} {ma mb:EM} {mt:TM} {ms mu:SM} {m:AM} {g:GM} {gs:GMs}
theorem fm {N':List Str} {caps:List (Option Nat)} {scope:Scope} {ifs:List Expr} {mi:IM} (C:CompScope X N' caps scope) (hc:X.calm=true) (hi:SI X tg iter mi) (hg:∀C s₃ H₃ fp pl,SG (blk X N' scope C s₃ H₃ fp pl) tg g)
  (hif:∀C s₃ H₃ fp pl,SIf (blk X N' scope C s₃ H₃ fp pl) ifs mt) (he:∀C s₃ H₃ fp pl,SE (blk X N' scope C s₃ H₃ fp pl) elt ma) (hs:∀x,foldedSetIterable iter X.env x=pure x:=by intro _;kernel_rfl):
  SE X (.ListComp elt [⟨tg,iter,ifs,0⟩] scope pos) (eLv (fE caps mi g mt ma)):=(tP (g:=tMG X.K g) (tc:=tMT X.K mt) (te:=tM X.K ma) C hc hi hg hif he hs).imp fun _ _ _=>vp
end
inductive SPFi (K:PySem.W.Frag) (n:Nat) (F:Fn) (vs:List V) (H:Hp) (Q:VK):Prop where
 | mk (ρ h ds d h'):Sim K ρ h H→RepL K ρ H vs ds→(ds.length=n)→(F ds h=some (d,h'))→(∀v H',bM K ρ H h' d v H'→Q v H')→SPFi K n F vs H Q
def spF (K:PySem.W.Frag) (n:Nat) (F:Fn):Sp:=fun vs H Q _=>SPFi K n F vs H Q
section
variable {X:Cx} {e:Expr} {es:List Expr} {pos p:Pos} {m:AM} {k n:Nat} {f:Addr} {fd:FuncData} {ps:List Str} {F:Fn} {x:Str}
theorem vj (G:FnOk X.prog X.w X.K X.mg X.base CX0 k f fd ps (spF X.K n F)) (hr:Room k X.A) (hg:Gl X x) (hm:X.mg x=some (.ref f)) (hk:PySem.W.keepIn X.K (.ref f)=true) (hb:Binds X.K fd ps [])
  (ha:SA X (e::es) m) (hl:iL m n) (hdb:(x==("__debug__":Str))=false:=by kernel_rfl) (he:starEach (e::es) X.env=(false,eval e X.env)::starEach es X.env:=by kernel_rfl) (hpl:(backTo pos (starEach es X.env)).any (·.1)=false:=by kernel_rfl):
  SE X (.Call (.Name x p) (e::es) [] pos) (eFn F m):=(v9 (E:=E0) G hr hg hm hk hb .nil Ap ha hdb he hpl).imp fun σ H Q ⟨ρ,δ,h,d,h',R,S,e,q⟩=>by
 obtain ⟨⟨ds,h1⟩,e1,e2⟩:=bnd e
 refine ⟨ρ,δ,h,ds,h1,R,S,e1,fun vs ρ1 H1 T1 S1 r1=>?_⟩
 show spF X.K n F (vs++[]) H1 Q E0
 rw [List.append_nil]
 exact ⟨ρ1,h1,ds,d,h',S1,r1,hl _ _ _ _ e1,e2,fun v H' P=>q v H' (P.step T1)⟩
end
def vm (r:Fl×DS×MH):Option (D×MH):=match r.1 with
 | .rt d=>some (d,r.2.2)
 | .nx=>some (.non,r.2.2)
 | _=>none
def entry (len:Nat) (ds:List D):DS:=ds.map some++List.replicate (len-ds.length) none
def mkF (len:Nat) (body:SM):Fn:=fun ds h=>(body (entry len ds) h).bind vm
theorem RepS.entry {K:PySem.W.Frag} {ρ:Ad} {H:Hp} {vs:List V} {ds:List D} (N:List Str) (l:RepL K ρ H vs ds):RepS K ρ H (L2.start N vs) (Sm.entry N.length ds):=by
 refine ⟨by simp [L2.start,Sm.entry,l.length],fun i d hd=>?_⟩
 unfold Sm.entry at hd
 unfold L2.start
 by_cases hi:i < ds.length
 ·rw [List.getElem?_append_left (by simpa using hi),List.getElem?_map] at hd
  obtain ⟨d',e1,e2⟩:=mpd hd
  cases e2
  obtain ⟨v,ev,r⟩:=l.got e1
  refine ⟨v,?_,r⟩
  rw [List.getElem?_append_left (by rw [List.length_map,l.length];exact hi),List.getElem?_map,ev];rfl
 ·rw [List.getElem?_append_right (by simpa using hi),List.getElem?_replicate] at hd
  split at hd <;> cases hd
section
variable {P:Program} {w:World} {K:PySem.W.Frag} {mg:Str→Option Value} {base:Heap} {x qual:Str} {st:Stmt} {f:Addr} {fd:FuncData} {N ps:List Str} {k:Nat}
theorem bo {body:SM} (F:Fun K x qual st f fd) (Sc:FnScope N ps (ay st))
  (hb:∀(cdv:Value) (A:Around) (outer:List Env) (s:Shared) (H:Hp) (E:XK),Room k (A.deeper (envOfC qual (ay st) s.heap.objs.size f cdv))→SSs (pA CX0 P w K mg base N qual (ay st) f cdv A outer s H E).nox (dY st) body):
  FnOk P w K mg base CX0 (k+1) f fd ps (spF K ps.length (mkF N.length body)):=by
 refine F.ok Sc (fun vs H Q E h=>?_) (fun cdv A outer s H vs Q E hr h=>?_)
 ·obtain ⟨ρ,h,ds,d,h',S,r,hl,_⟩:=h
  rw [r.length];exact hl
 ·obtain ⟨ρ,h,ds,d,h',S,r,hl,e,q⟩:=h
  refine ⟨_,hb cdv A outer s H E hr,?_⟩
  obtain ⟨⟨fl,δ1,h1⟩,e1,e2⟩:=bnd e
  refine ⟨ρ,entry N.length ds,h,fl,δ1,h1,RepS.entry N r,S,e1,fun ρ1 H1 T1 S1=>?_⟩
  cases fl with
  | nx=>cases e2;exact fun σ' R'=>q _ _ ⟨ρ1,T1,S1,.non⟩
  | rt d=>cases e2;exact fun v r=>q _ _ ⟨ρ1,T1,S1,r⟩
  | bk=>cases e2
  | ct=>cases e2
end
mutual
def clD (n:Nat):D→Bool
 | .tup xs=>clL n xs
 | .lv xs=>clL n xs
 | .ro xs=>clL n xs
 | .dv kvs=>clK n kvs
 | .ob m=>decide (m < n)
 | _=>true
def clL (n:Nat):List D→Bool
 | []=>true
 | x::r=>clD n x&&clL n r
def clK (n:Nat):List (Key×D)→Bool
 | []=>true
 | (_,x)::r=>clD n x&&clK n r
end
def clO (n:Nat):MO→Bool
 | .lst xs=>clL n xs
 | .dct kvs=>clK n kvs
abbrev Ad.cut (ρ:Ad) (n:Nat):Ad:=⟨ρ.ob.take n,ρ.rs⟩
theorem Ad.gE {ρ:Ad} {n:Nat} {a:Addr} (h:(ρ.cut n).has a):ρ.has a:=h.elim (fun m=>.inl (List.mem_of_mem_take m)) .inr
mutual
theorem Rep.cut {K:PySem.W.Frag} {ρ:Ad} {H:Hp} {n:Nat}:∀{v:V} {d:D},Rep K ρ H v d→clD n d=true→Rep K (ρ.cut n) H v d
 | _,_,.non,_=>.non
 | _,_,.bl b,_=>.bl b
 | _,_,.int i,_=>.int i
 | _,_,.str x,_=>.str x
 | _,_,.ty n,_=>.ty n
 | _,_,.tup h l,c=>.tup (h.elim (fun ⟨a,n⟩=>.inl ⟨a,fun m=>n (Ad.gE m)⟩) .inr) (RepL.cut l (by simpa [clD] using c))
 | _,_,.lv h n l,c=>.lv h (fun m=>n (Ad.gE m)) (RepL.cut l (by simpa [clD] using c))
 | _,_,.ro h l,c=>.ro (h.elim (fun ⟨a,n⟩=>.inl ⟨a,fun m=>n (Ad.gE m)⟩) .inr) (RepL.cut l (by simpa [clD] using c))
 | _,_,.dv h n l,c=>.dv h (fun m=>n (Ad.gE m)) (RepK.cut l (by simpa [clD] using c))
 | _,_,.ob (n:=m) e,c=>.ob (by
   have hm:m < n:=by simpa [clD] using c
   show (ρ.ob.take n)[m]?=_
   rw [List.getElem?_take_of_lt hm];exact e)
theorem RepL.cut {K:PySem.W.Frag} {ρ:Ad} {H:Hp} {n:Nat}:∀{v:List V} {d:List D},RepL K ρ H v d→clL n d=true→RepL K (ρ.cut n) H v d
 | _,_,.nil,_=>.nil
 | _,_,.cons r l,c=>by
  simp only [clL,Bool.and_eq_true] at c
  exact .cons (Rep.cut r c.1) (RepL.cut l c.2)
theorem RepK.cut {K:PySem.W.Frag} {ρ:Ad} {H:Hp} {n:Nat}:∀{v:List (Key×V)} {d:List (Key×D)},RepK K ρ H v d→clK n d=true→RepK K (ρ.cut n) H v d
 | _,_,.nil,_=>.nil
 | _,_,.cons r l,c=>by
  simp only [clK,Bool.and_eq_true] at c
  exact .cons (Rep.cut r c.1) (RepK.cut l c.2)
end
mutual
theorem Rep.clean {K:PySem.W.Frag} {ρ:Ad} {H:Hp}:∀{v:V} {d:D},Rep K ρ H v d→clD ρ.ob.length d=true
 | _,_,.non=>rfl
 | _,_,.bl b=>rfl
 | _,_,.int i=>rfl
 | _,_,.str x=>rfl
 | _,_,.ty n=>rfl
 | _,_,.tup h l=>by simp [clD];exact RepL.clean l
 | _,_,.lv h n l=>by simp [clD];exact RepL.clean l
 | _,_,.ro h l=>by simp [clD];exact RepL.clean l
 | _,_,.dv h n l=>by simp [clD];exact RepK.clean l
 | _,_,.ob e=>by simp [clD];exact (List.getElem?_eq_some_iff.mp e).1
theorem RepL.clean {K:PySem.W.Frag} {ρ:Ad} {H:Hp}:∀{v:List V} {d:List D},RepL K ρ H v d→clL ρ.ob.length d=true
 | _,_,.nil=>rfl
 | _,_,.cons r l=>by simp [clL];exact ⟨Rep.clean r,RepL.clean l⟩
theorem RepK.clean {K:PySem.W.Frag} {ρ:Ad} {H:Hp}:∀{v:List (Key×V)} {d:List (Key×D)},RepK K ρ H v d→clK ρ.ob.length d=true
 | _,_,.nil=>rfl
 | _,_,.cons r l=>by simp [clK];exact ⟨Rep.clean r,RepK.clean l⟩
end
theorem ObR.cut {K:PySem.W.Frag} {ρ:Ad} {H:Hp} {n:Nat} {a:Addr} {o:MO} (x:ObR K ρ H a o) (c:clO n o=true):ObR K (ρ.cut n) H a o:=by
 cases o with
 | lst ds=>obtain ⟨vs,e,l⟩:=x;exact ⟨vs,e,l.cut c⟩
 | dct ds=>obtain ⟨vs,e,l⟩:=x;exact ⟨vs,e,l.cut c⟩
theorem ObR.clean {K:PySem.W.Frag} {ρ:Ad} {H:Hp} {a:Addr} {o:MO} (x:ObR K ρ H a o):clO ρ.ob.length o=true:=by
 cases o with
 | lst ds=>obtain ⟨vs,e,l⟩:=x;exact l.clean
 | dct ds=>obtain ⟨vs,e,l⟩:=x;exact l.clean
def lG (n:Nat) (h:MH) (d:D):D:=match d with
 | .ob m=>if m < n then .ob m else match h[m]? with
  | some (.lst xs)=>.lv xs
  | some (.dct kvs)=>.dv kvs
  | none=>.ob m
 | d=>d
def leave (h:MH) (d:D) (h':MH):Option (D×MH):=
 if clD h.length (lG h.length h' d)&&(mL (h'.take h.length) h||(h'.take h.length).all (clO h.length)) then some (lG h.length h' d,h'.take h.length) else none
def mkL (len:Nat) (body:SM):Fn:=fun ds h=>((body (entry len ds) h).bind vm).bind fun p=>leave h p.1 p.2
theorem bM.leave {K:PySem.W.Frag} {ρ:Ad} {H H':Hp} {h h1 h':MH} {d d':D} {v:V} (S:Sim K ρ h H) (p:bM K ρ H h1 d v H') (e:Sm.leave h d h1=some (d',h')):bM K ρ H h' d' v H':=by
 obtain ⟨ρ1,T,S1,r⟩:=p
 unfold Sm.leave at e
 by_cases hc:(clD h.length (lG h.length h1 d)&&(mL (h1.take h.length) h||(h1.take h.length).all (clO h.length)))=true
 ·rw [if_pos hc] at e
  cases e
  rw [Bool.and_eq_true] at hc
  obtain ⟨c1,c2⟩:=hc
  have hle:h.length≤h1.length:=by
   rw [←S.len,←S1.len]
   refine Nat.le_of_not_lt fun hlt=>?_
   have e1:ρ.ob[ρ1.ob.length]?=some ρ.ob[ρ1.ob.length]:=List.getElem?_eq_getElem hlt
   have:=(List.getElem?_eq_some_iff.mp (T.pre _ _ e1)).1
   omega
  have hall:∀(m:Nat) o,m < h.length→h1[m]?=some o→clO h.length o=true:=by
   intro m o hm ho
   rw [Bool.or_eq_true] at c2
   rcases c2 with c2 | c2
   ·have e1:=qA c2
    have e2:h[m]?=some o:=by rw [←e1,List.getElem?_take_of_lt hm];exact ho
    have hm':m < ρ.ob.length:=by rw [S.len];exact hm
    have:=(S.at_ m _ o (List.getElem?_eq_getElem hm') e2).clean
    rw [S.len] at this
    exact this
   ·rw [List.all_eq_true] at c2
    exact c2 o (List.mem_of_getElem? (show (h1.take h.length)[m]?=some o by rw [List.getElem?_take_of_lt hm];exact ho))
  have Sc:Sim K (ρ1.cut h.length) (h1.take h.length) H':=by
   refine ⟨by simp [S1.len],S1.nd.sublist (List.take_sublist _ _),fun n a o e1 e2=>?_,fun b hb=>⟨(S1.rsv b hb).1,fun m=>(S1.rsv b hb).2 (List.mem_of_mem_take m)⟩⟩
   have hn:n < h.length:=by
    have:=(List.getElem?_eq_some_iff.mp e2).1
    rw [List.length_take] at this
    omega
   have e1:(ρ1.ob.take h.length)[n]?=some a:=e1
   rw [List.getElem?_take_of_lt hn] at e1 e2
   exact (S1.at_ n a o e1 e2).cut (hall n o hn e2)
  refine ⟨ρ1.cut h.length,⟨⟨fun n a e=>?_,fun b o n e=>?_⟩,T.rs,T.res⟩,Sc,?_⟩
  ·have hn:n < h.length:=by rw [←S.len];exact (List.getElem?_eq_some_iff.mp e).1
   show (ρ1.ob.take h.length)[n]?=some a
   rw [List.getElem?_take_of_lt hn]
   exact T.pre n a e
  ·obtain ⟨n1,e1⟩:=T.old b o n e
   exact ⟨fun m=>n1 (Ad.gE m),e1⟩
  ·cases d with
   | ob m=>
    unfold lG at c1 ⊢
    dsimp only at c1 ⊢
    by_cases hm:m < h.length
    ·rw [if_pos hm] at c1 ⊢
     exact r.cut c1
    ·rw [if_neg hm] at c1 ⊢
     cases r with
     | ob hn=>
      rename_i a
      have na:¬(ρ1.cut h.length).has a:=by
       intro z
       rcases z with z | z
       ·obtain ⟨j,hj⟩:=List.getElem?_of_mem z
        have hj1:j < h.length:=by
         have:=(List.getElem?_eq_some_iff.mp hj).1
         rw [List.length_take] at this
         omega
        rw [List.getElem?_take_of_lt hj1] at hj
        have:=(List.getElem?_inj (List.getElem?_eq_some_iff.mp hj).1 S1.nd).mp (hj.trans hn.symm)
        omega
       ·exact (S1.rsv a z).2 (List.mem_of_getElem? hn)
      cases q:h1[m]? with
      | none=>rw [q] at c1;exact absurd c1 (by simp [clD];omega)
      | some o=>
       have x:=S1.at_ m a o hn q
       cases o with
       | lst xs=>
        rw [q] at c1
        obtain ⟨vs,e1,l⟩:=x
        exact .lv e1 na (l.cut (by simpa [clD] using c1))
       | dct xs=>
        rw [q] at c1
        obtain ⟨vs,e1,l⟩:=x
        exact .dv e1 na (l.cut (by simpa [clD] using c1))
   | _=>exact r.cut c1
 ·rw [if_neg hc] at e;cases e
section
variable {P:Program} {w:World} {K:PySem.W.Frag} {mg:Str→Option Value} {base:Heap} {x qual:Str} {st:Stmt} {f:Addr} {fd:FuncData} {N ps:List Str} {k:Nat}
theorem dD {body:SM} (G:FnOk P w K mg base CX0 k f fd ps (spF K ps.length (mkF N.length body))):FnOk P w K mg base CX0 k f fd ps (spF K ps.length (mkL N.length body)):=by
 refine G.imp fun vs H Q E hh=>?_
 obtain ⟨ρ,h,ds,d,h',S,r,hl,e,q⟩:=hh
 obtain ⟨⟨d1,h1⟩,e1,e2⟩:=bnd e
 exact ⟨ρ,h,ds,d1,h1,S,r,hl,e1,fun v H' p=>q v H' (p.leave S e2)⟩
end
def spT (K:PySem.W.Frag):Sp:=fun vs H Q _=>∃(a:Addr) (ns:List Int),vs=[.ref a]∧SqL K H a (ns.map V.int)∧ns.length≤63∧∀H',Q (.bl true) H'
theorem wq {P:Program} {w:World} {K:PySem.W.Frag} {mg:Str→Option Value} {base:Heap} {k:Nat} {f:Addr} {fd:FuncData} {ps:List Str} {F:Fn} (G:FnOk P w K mg base CX0 k f fd ps (spF K 1 F))
  (hF:∀ns:List Int,ns.length≤63→∃h',F [.ro (ns.map D.int)] []=some (.bl true,h')):FnOk P w K mg base CX0 k f fd ps (spT K):=by
 refine G.imp fun vs H Q E hh=>?_
 obtain ⟨a,ns,rfl,ha,hl,q⟩:=hh
 obtain ⟨h',e⟩:=hF ns hl
 refine ⟨⟨[],[]⟩,[],[.ro (ns.map D.int)],.bl true,h',⟨rfl,List.nodup_nil,fun n a o e=>by simp at e,fun b hb=>absurd hb (by simp)⟩,.cons (.ro ?_ (gW ns)) .nil,rfl,e,fun v H' ⟨ρ',T,S,r⟩=>?_⟩
 ·rcases ha with ha | ha
  ·exact .inl ⟨ha,fun z=>z.elim (fun z=>absurd z (by simp)) fun z=>absurd z (by simp)⟩
  ·exact .inr (.inr ha)
 ·cases r
  exact q H'
end Sm
namespace Sm
open PySem L2 PySem.Spec PyProof.Rows
mutual
def pyD:D→Option PyData
 | .non=>some .none
 | .bl b=>some (.bool b)
 | .int i=>some (.int i)
 | .str x=>some (.str x)
 | .tup xs=>(pyL xs).map .tuple
 | .lv xs=>(pyL xs).map .list
 | .ro xs=>(pyL xs).map .list
 | _=>none
def pyL:List D→Option (List PyData)
 | []=>some []
 | x::r=>(pyD x).bind fun a=>(pyL r).map fun b=>a::b
end
def rdD (h:MH) (d:D):Option PyData:=match d with
 | .ob n=>match h[n]? with
  | some (.lst xs)=>(pyL xs).map .list
  | _=>none
 | d=>pyD d
mutual
theorem Rep.rds {K:PySem.W.Frag} {ρ:Ad} {H:Hp}:∀{v:V} {d:D} {p:PyData},Rep K ρ H v d→pyD d=some p→Rds K H v p∧p.canLay0=true
 | _,_,_,.non,e=>by cases e;exact ⟨.non,rfl⟩
 | _,_,_,.bl b,e=>by cases e;exact ⟨.bl b,rfl⟩
 | _,_,_,.int i,e=>by cases e;exact ⟨.int i,rfl⟩
 | _,_,_,.str hs,e=>by cases e;exact ⟨.str _,by simpa [PyData.canLay0] using hs⟩
 | _,_,_,.ty n,e=>by cases e
 | _,_,_,.tup h l,e=>by
  simp only [pyD] at e
  obtain ⟨q,e1,e2⟩:=mpd e
  subst e2
  obtain ⟨a,b⟩:=RepL.rds l e1
  exact ⟨.tup h.sq a,by simpa [PyData.canLay0] using b⟩
 | _,_,_,.lv h n l,e=>by
  simp only [pyD] at e
  obtain ⟨q,e1,e2⟩:=mpd e
  subst e2
  obtain ⟨a,b⟩:=RepL.rds l e1
  exact ⟨.lst (SqL.of h) a,by simpa [PyData.canLay0] using b⟩
 | _,_,_,.ro h l,e=>by
  simp only [pyD] at e
  obtain ⟨q,e1,e2⟩:=mpd e
  subst e2
  obtain ⟨a,b⟩:=RepL.rds l e1
  exact ⟨.lst h.sq a,by simpa [PyData.canLay0] using b⟩
 | _,_,_,.dv h n l,e=>by simp [pyD] at e
 | _,_,_,.ob h,e=>by simp [pyD] at e
theorem RepL.rds {K:PySem.W.Frag} {ρ:Ad} {H:Hp}:∀{v:List V} {d:List D} {p:List PyData},RepL K ρ H v d→pyL d=some p→RdsL K H v p∧PyData.canLayAll0 p=true
 | _,_,_,.nil,e=>by cases e;exact ⟨.nil,rfl⟩
 | _,_,_,.cons r l,e=>by
  simp only [pyL] at e
  obtain ⟨a,e1,e2⟩:=bnd e
  obtain ⟨b,e3,e4⟩:=mpd e2
  subst e4
  obtain ⟨a1,a2⟩:=Rep.rds r e1
  obtain ⟨b1,b2⟩:=RepL.rds l e3
  exact ⟨.cons a1 b1,by simp [PyData.canLayAll0,a2,b2]⟩
end
section
variable {K:PySem.W.Frag} {ρ:Ad} {H:Hp} {h:MH} {v:V} {d:D}
theorem lY {p:PyData} (S:Sim K ρ h H) (r:Rep K ρ H v d) (e:rdD h d=some p):Rds K H v p∧p.canLay0=true:=by
 cases r with
 | @ob a n hn=>
  unfold rdD at e
  dsimp only at e
  cases q:h[n]? with
  | none=>rw [q] at e;cases e
  | some o=>
   rw [q] at e
   cases o with
   | dct _=>cases e
   | lst xs=>
    obtain ⟨vs,e1,l⟩:=S.at_ n a _ hn q
    obtain ⟨b,e3,e4⟩:=mpd e
    subst e4
    obtain ⟨b1,b2⟩:=l.rds e3
    exact ⟨.lst (SqL.of e1) b1,by simpa [PyData.canLay0] using b2⟩
 | non=>exact Rep.rds (Rep.non (ρ:=ρ)) e
 | bl b=>exact Rep.rds (Rep.bl (ρ:=ρ) b) e
 | int i=>exact Rep.rds (Rep.int (ρ:=ρ) i) e
 | str x=>exact Rep.rds (Rep.str (ρ:=ρ) x) e
 | ty n=>exact Rep.rds (Rep.ty (ρ:=ρ) n) e
 | tup h l=>exact Rep.rds (.tup h l) e
 | lv h n l=>exact Rep.rds (.lv h n l) e
 | ro h l=>exact Rep.rds (.ro h l) e
 | dv h n l=>exact Rep.rds (.dv h n l) e
def g6 (d:D) (h:MH):Option (List D):=match d with
 | .lv xs=>some xs
 | .ob n=>match h[n]? with
  | some (.lst xs)=>some xs
  | _=>none
 | _=>none
theorem dU {xs:List D} (S:Sim K ρ h H) (r:Rep K ρ H v d) (e:g6 d h=some xs):∃a vs,v=.ref a∧H a=some (.lst vs)∧RepL K ρ H vs xs:=by
 cases r with
 | @ob a n hn=>
  unfold g6 at e
  dsimp only at e
  cases q:h[n]? with
  | none=>rw [q] at e;cases e
  | some o=>
   rw [q] at e
   cases o with
   | dct _=>cases e
   | lst ys=>
    cases e
    obtain ⟨vs,e1,l⟩:=S.at_ n a _ hn q
    exact ⟨a,vs,rfl,e1,l⟩
 | lv h n l=>cases e;exact ⟨_,_,rfl,h,l⟩
 | _=>cases e
def bp (d:D) (h:MH):Option (List (Key×D)):=match d with
 | .dv kvs=>some kvs
 | .ob n=>match h[n]? with
  | some (.dct kvs)=>some kvs
  | _=>none
 | _=>none
theorem cA {xs:List (Key×D)} (S:Sim K ρ h H) (r:Rep K ρ H v d) (e:bp d h=some xs):∃a vs,v=.ref a∧H a=some (.dK vs)∧RepK K ρ H vs xs:=by
 cases r with
 | @ob a n hn=>
  unfold bp at e
  dsimp only at e
  cases q:h[n]? with
  | none=>rw [q] at e;cases e
  | some o=>
   rw [q] at e
   cases o with
   | lst _=>cases e
   | dct ys=>
    cases e
    obtain ⟨vs,e1,l⟩:=S.at_ n a _ hn q
    exact ⟨a,vs,rfl,e1,l⟩
 | dv h n l=>cases e;exact ⟨_,_,rfl,h,l⟩
 | _=>cases e
theorem iN {xs:List D} {ws:W} (S:Sim K ρ h H) (r:Rep K ρ H v d) (e:bR d h=some (xs,ws)):∃a vs,v=.ref a∧(SqL K H a vs∨SqT K H a vs)∧RepL K ρ H vs xs:=by
 obtain ⟨a,e1,⟨vs,q,l⟩,_⟩:=gP S r e
 refine ⟨a,vs,e1,?_,l⟩
 generalize kc d=b at q
 cases q with
 | l q=>exact .inl q
 | t q=>exact .inr q
def fy:D→Option Key
 | .int i=>some (.inl i)
 | .str x=>some (.inr x)
 | _=>none
def bc (kvs:List (Key×D)) (k:Key):Option D:=(kvs.find? fun kv=>decide (kv.1=k)).map (·.2)
def putD (kvs:List (Key×D)) (k:Key) (v:D):List (Key×D):=
 if (kvs.any fun kv=>decide (kv.1=k))=true then kvs.map (fun kv=>if kv.1=k then (kv.1,v) else kv) else kvs++[(k,v)]
theorem cW {k:Key} (r:Rep K ρ H v d) (e:fy d=some k):v=kV k:=by
 cases r with
 | int i=>cases e;rfl
 | str x=>cases e;rfl
 | _=>cases e
theorem RepK.val:∀{us:List (Key×V)} {kvs:List (Key×D)} (k:Key),RepK K ρ H us kvs→(bc kvs k=none∧c5 us k=none)∨∃d v,bc kvs k=some d∧c5 us k=some v∧Rep K ρ H v d
 | _,_,k,.nil=>.inl ⟨rfl,rfl⟩
 | _,_,k,.cons (k:=j) (v:=v) (vs:=vs) (d:=d) (ds:=ds) r l=>by
  by_cases z:j=k
  ·exact .inr ⟨d,v,by simp [bc,z],by simp [c5,z],r⟩
  ·have h1:bc ((j,d)::ds) k=bc ds k:=by simp only [bc,List.find?_cons,z,decide_false]
   have h2:c5 ((j,v)::vs) k=c5 vs k:=eI z
   rw [h1,h2]
   exact RepK.val k l
theorem RepK.length:∀{us:List (Key×V)} {kvs:List (Key×D)},RepK K ρ H us kvs→us.length=kvs.length
 | _,_,.nil=>rfl
 | _,_,.cons _ l=>by rw [List.length_cons,List.length_cons,RepK.length l]
theorem RepK.any (k:Key):∀{us:List (Key×V)} {kvs:List (Key×D)},RepK K ρ H us kvs→(us.any fun kv=>decide (kv.1=k))=(kvs.any fun kv=>decide (kv.1=k))
 | _,_,.nil=>rfl
 | _,_,.cons _ l=>by rw [List.any_cons,List.any_cons,RepK.any k l]
theorem RepK.map {k:Key} {v:V} {d:D} (r:Rep K ρ H v d):∀{us:List (Key×V)} {kvs:List (Key×D)},RepK K ρ H us kvs→RepK K ρ H (us.map fun kv=>if kv.1=k then (kv.1,v) else kv) (kvs.map fun kv=>if kv.1=k then (kv.1,d) else kv)
 | _,_,.nil=>.nil
 | _,_,.cons (k:=j) q l=>by
  rw [List.map_cons,List.map_cons]
  by_cases z:j=k
  ·rw [if_pos z,if_pos z];exact .cons r (RepK.map r l)
  ·rw [if_neg z,if_neg z];exact .cons q (RepK.map r l)
theorem RepK.append:∀{us vs:List (Key×V)} {ks ls:List (Key×D)},RepK K ρ H us ks→RepK K ρ H vs ls→RepK K ρ H (us++vs) (ks++ls)
 | _,_,_,_,.nil,t=>t
 | _,_,_,_,.cons r l,t=>.cons r (RepK.append l t)
theorem RepK.put {us:List (Key×V)} {kvs:List (Key×D)} {k:Key} (l:RepK K ρ H us kvs) {v:V} {d:D} (r:Rep K ρ H v d):RepK K ρ H (putK us k v) (putD kvs k d):=by
 unfold putK putD
 rw [l.any k]
 by_cases z:(kvs.any fun kv=>decide (kv.1=k))=true
 ·rw [if_pos z,if_pos z];exact l.map r
 ·rw [if_neg z,if_neg z];exact l.append (.cons r .nil)
end
def wH (d e:D) (h:MH):Option (D×MH):=match d,e with
 | .int i,.int j=>some (.int (i+j),h)
 | .str a,.str b=>if a.length+b.length≤sizeLine then some (.str (a++b),h) else none
 | .tup [],.tup _=>none
 | .tup (x::xs),.tup ys=>if xs.length+1+ys.length≤sizeLine then some (.tup (x::xs++ys),h) else none
 | d,e=>(g6 d h).bind fun xs=>(g6 e h).bind fun ys=>if xs.length+ys.length≤sizeLine then some (.lv (xs++ys),h) else none
def wD (d e:D) (h:MH):Option (D×MH):=match d,e with
 | .int i,.int j=>some (.int (i-j),h)
 | _,_=>none
def gx (i j:Int):Bool:=(decide (-(2^64) < i)&&decide (i < 2^64))||(decide (-(2^64) < j)&&decide (j < 2^64))
def yZ (d e:D) (h:MH):Option (D×MH):=match d,e with
 | .int i,.int j=>if gx i j then some (.int (i*j),h) else none
 | _,_=>none
def jF (d e:D) (h:MH):Option (D×MH):=match d,e with
 | .int i,.int j=>if 0 < j then some (.int (i % j),h) else none
 | _,_=>none
def uv (d e:D) (h:MH):Option (D×MH):=match d,e with
 | .int i,.int j=>if 0 < j∧j≤10^40 then some (.int (i / j),h) else none
 | _,_=>none
def uq (d e:D) (h:MH):Option (D×MH):=match d,e with
 | .int i,.int j=>if 0≤j∧j≤1000000∧i.natAbs < 2^64 then some (.int (i^j.toNat),h) else none
 | _,_=>none
def uK (f:Int→Int→Bool) (d e:D) (h:MH):Option (D×MH):=match d,e with
 | .int i,.int j=>some (.bl (f i j),h)
 | _,_=>none
def fLt:=uK fun i j=>decide (i < j)
def fLe:=uK fun i j=>decide (i≤j)
def fGt:=uK fun i j=>decide (j < i)
def fGe:=uK fun i j=>decide (j≤i)
def eqD (d e:D) (h:MH):Option Bool:=(rdD h d).bind fun a=>(rdD h e).bind fun b=>if a.depth≤64∧b.depth≤64 then some (PyData.eqv a b) else none
def isN:D→Bool
 | .non=>true
 | _=>false
def y1 (d e:D) (h:MH):Option (D×MH):=match e with
 | .non=>some (.bl (isN d),h)
 | _=>none
def qm (d e:D) (h:MH):Option (D×MH):=match e with
 | .non=>some (.bl (!isN d),h)
 | _=>none
def lD (d:D) (h:MH):Option (D×MH):=match d with
 | .int i=>some (.int (-i),h)
 | _=>none
def inD (d e:D) (h:MH):Option Bool:=match bp e h with
 | some kvs=>(fy d).map fun k=>(bc kvs k).isSome
 | none=>match d,e with
  | .str x,.str y=>some (!(Builtin.Str.occurrences y x 0 y.length 1).isEmpty)
  | d,e=>(bR e h).bind fun p=>(rdD h d).bind fun a=>(pyL p.1).bind fun bs=>if a.depth≤60∧PyData.depthAll bs≤60 then some (bs.any fun b=>PyData.eqv b a) else none
def fIn (d e:D) (h:MH):Option (D×MH):=(inD d e h).map fun c=>(.bl c,h)
def di (d e:D) (h:MH):Option (D×MH):=(inD d e h).map fun c=>(.bl (!c),h)
def fIx (d e:D) (h:MH):Option (D×MH):=match bp d h with
 | some kvs=>(fy e).bind fun k=>(bc kvs k).map fun z=>(z,h)
 | none=>match d,e with
  | .str z,.int i=>if z.length≤sizeLine then (atI z.cps.toList i).map fun c=>(.str ⟨#[c]⟩,h) else none
  | d,.int i=>(bR d h).bind fun p=>(atI p.1 i).map fun z=>(z,h)
  | _,_=>none
end Sm
namespace Sm
open PySem L2 PySem.Spec PyProof.Rows
section
variable {X:Cx}
theorem l6 {g:Value→Value→Sem Value} {C:Int→Int→Prop} {q:Int→Int→V} {f:D→D→MH→Option (D×MH)} (ho:OpR X g (rI C q))
  (hf:∀d e h z h',f d e h=some (z,h')→∃i j,d=.int i∧e=.int j∧C i j∧h'=h∧∀ρ H,Rep X.K ρ H (q i j) z):OpS X g f:=by
 intro pins s σ H x y v u Q I rx ry hh
 obtain ⟨ρ,h,d,e,z,h',S,rd,re,ee,k⟩:=hh
 obtain ⟨i,j,rfl,rfl,c,rfl,rz⟩:=hf _ _ _ _ _ ee
 cases rd;cases re
 exact ho pins s σ H _ _ v u Q I rx ry ⟨i,j,rfl,rfl,c,k _ _ (.here S (rz _ _))⟩
theorem gr {g:Value→Value→Sem Value} {q:Int→Int→V} {f:D→D→MH→Option (D×MH)} (ho:OpR X g (rI0 q))
  (hf:∀d e h z h',f d e h=some (z,h')→∃i j,d=.int i∧e=.int j∧h'=h∧∀ρ H,Rep X.K ρ H (q i j) z):OpS X g f:=by
 intro pins s σ H x y v u Q I rx ry hh
 obtain ⟨ρ,h,d,e,z,h',S,rd,re,ee,k⟩:=hh
 obtain ⟨i,j,rfl,rfl,rfl,rz⟩:=hf _ _ _ _ _ ee
 cases rd;cases re
 exact ho pins s σ H _ _ v u Q I rx ry ⟨i,j,rfl,rfl,k _ _ (.here S (rz _ _))⟩
theorem tT:OpS X (binaryOp .Sub) wD:=gr yC fun d e h z h' ee=>by
 cases d <;> first | (cases ee;done) | skip
 cases e <;> first | (cases ee;done) | skip
 cases ee;exact ⟨_,_,rfl,rfl,rfl,fun _ _=>.int _⟩
theorem yx:OpS X (binaryOp .Mult) yZ:=l6 yE fun d e h z h' ee=>by
 cases d <;> first | (cases ee;done) | skip
 cases e <;> first | (cases ee;done) | skip
 rename_i i j
 unfold yZ at ee
 dsimp only at ee
 by_cases c:gx i j=true
 ·rw [if_pos c] at ee;cases ee
  refine ⟨i,j,rfl,rfl,?_,rfl,fun _ _=>.int _⟩
  unfold gx at c
  simp only [Bool.or_eq_true,Bool.and_eq_true,decide_eq_true_eq] at c
  exact c
 ·rw [if_neg c] at ee;cases ee
theorem fP:OpS X (binaryOp .Mod) jF:=l6 yF fun d e h z h' ee=>by
 cases d <;> first | (cases ee;done) | skip
 cases e <;> first | (cases ee;done) | skip
 rename_i i j
 unfold jF at ee
 dsimp only at ee
 by_cases c:0 < j
 ·rw [if_pos c] at ee;cases ee;exact ⟨i,j,rfl,rfl,c,rfl,fun _ _=>.int _⟩
 ·rw [if_neg c] at ee;cases ee
theorem yA:OpS X (binaryOp .FloorDiv) uv:=l6 tV fun d e h z h' ee=>by
 cases d <;> first | (cases ee;done) | skip
 cases e <;> first | (cases ee;done) | skip
 rename_i i j
 unfold uv at ee
 dsimp only at ee
 by_cases c:0 < j∧j≤10^40
 ·rw [if_pos c] at ee;cases ee;exact ⟨i,j,rfl,rfl,c,rfl,fun _ _=>.int _⟩
 ·rw [if_neg c] at ee;cases ee
theorem oZ:OpS X (binaryOp .Pow) uq:=l6 yD fun d e h z h' ee=>by
 cases d <;> first | (cases ee;done) | skip
 cases e <;> first | (cases ee;done) | skip
 rename_i i j
 unfold uq at ee
 dsimp only at ee
 by_cases c:0≤j∧j≤1000000∧i.natAbs < 2^64
 ·rw [if_pos c] at ee;cases ee;exact ⟨i,j,rfl,rfl,c,rfl,fun _ _=>.int _⟩
 ·rw [if_neg c] at ee;cases ee
theorem qu {f:Int→Int→Bool} {d e z:D} {h h':MH} (ee:uK f d e h=some (z,h')):∃i j,d=.int i∧e=.int j∧h'=h∧z=.bl (f i j):=by
 cases d <;> first | (cases ee;done) | skip
 cases e <;> first | (cases ee;done) | skip
 cases ee;exact ⟨_,_,rfl,rfl,rfl,rfl⟩
theorem qf:OpS X (compareOp .Lt) fLt:=gr As fun d e h z h' ee=>by
 obtain ⟨i,j,rfl,rfl,rfl,rfl⟩:=qu ee;exact ⟨i,j,rfl,rfl,rfl,fun _ _=>.bl _⟩
theorem xg:OpS X (compareOp .LtE) fLe:=gr Au fun d e h z h' ee=>by
 obtain ⟨i,j,rfl,rfl,rfl,rfl⟩:=qu ee;exact ⟨i,j,rfl,rfl,rfl,fun _ _=>.bl _⟩
theorem Aq:OpS X (compareOp .Gt) fGt:=gr Av fun d e h z h' ee=>by
 obtain ⟨i,j,rfl,rfl,rfl,rfl⟩:=qu ee;exact ⟨i,j,rfl,rfl,rfl,fun _ _=>.bl _⟩
theorem Ar:OpS X (compareOp .GtE) fGe:=gr Aw fun d e h z h' ee=>by
 obtain ⟨i,j,rfl,rfl,rfl,rfl⟩:=qu ee;exact ⟨i,j,rfl,rfl,rfl,fun _ _=>.bl _⟩
theorem iZ:UnR X (unaryOp .USub) (rU X.K lD):=by
 intro pins s σ H x v Q I rx hh
 obtain ⟨ρ,h,d,z,h',S,rd,ee,k⟩:=hh
 cases rd <;> first | (cases ee;done) | skip
 cases ee
 exact xr pins s σ H _ v Q I rx ⟨_,rfl,k _ _ (.here S (.int _))⟩
theorem yB:OpS X (binaryOp .Add) wH:=by
 intro pins s σ H x y v u Q I rx ry hh
 obtain ⟨ρ,h,d,e,z,h',S,rd,re,ee,k⟩:=hh
 have lists:((g6 d h).bind fun xs=>(g6 e h).bind fun ys=>if xs.length+ys.length≤sizeLine then some (D.lv (xs++ys),h) else none)=some (z,h')→wpAny (model X.prog X.w) X.A (binaryOp .Add v u) (EP X pins σ Q) X.xe s:=by
  intro ee
  obtain ⟨xs,e1,e4⟩:=bnd ee
  obtain ⟨ys,e2,e3⟩:=bnd e4
  by_cases c:xs.length+ys.length≤sizeLine
  ·rw [if_pos c] at e3;cases e3
   obtain ⟨a,vs,rfl,ha,la⟩:=dU S rd e1
   obtain ⟨b,us,rfl,hb,lb⟩:=dU S re e2
   exact yH pins s σ H _ _ v u Q I rx ry ⟨a,b,vs,us,rfl,rfl,ha,hb,by rw [la.length,lb.length];exact c,fun p hp=>k _ _ (.lv S (la.append lb) hp)⟩
  ·rw [if_neg c] at e3;cases e3
 cases d with
 | int i=>
  cases e <;> first | (cases ee;done) | skip
  cases ee;cases rd;cases re
  exact yI pins s σ H _ _ v u Q I rx ry ⟨_,_,rfl,rfl,k _ _ (.here S (.int _))⟩
 | str a=>
  cases e <;> first | (cases ee;done) | skip
  rename_i b
  unfold wH at ee
  dsimp only at ee
  by_cases c:a.length+b.length≤sizeLine
  ·rw [if_pos c] at ee;cases ee
   cases rd with | str h1=>cases re with | str h2=>
   exact o3 pins s σ H _ _ v u Q I rx ry ⟨a,b,rfl,rfl,c,k _ _ (.here S (.str (qN h1 h2)))⟩
  ·rw [if_neg c] at ee;cases ee
 | tup xs=>
  cases xs with
  | nil=>cases e <;> cases ee
  | cons x0 xs=>
   cases e <;> first | (cases ee;done) | skip
   rename_i ys
   unfold wH at ee
   dsimp only at ee
   by_cases c:xs.length+1+ys.length≤sizeLine
   ·rw [if_pos c] at ee;cases ee
    cases rd with | tup h1 l1=>cases re with | tup h2 l2=>
    rename_i a vs b us
    refine wd pins s σ H _ _ v u Q I rx ry ⟨a,b,vs,us,rfl,rfl,h1.sq,h2.sq,?_,?_,fun z=>?_,fun _ p hp=>k _ _ (.tup S (l1.append l2) hp)⟩
    ·intro z;rw [z] at l1;cases l1
    ·rw [l1.length,l2.length];exact c
    ·rw [z] at l2
     cases l2
     rw [List.append_nil] at k
     exact k _ _ (.here S (.tup h1 l1))
   ·rw [if_neg c] at ee;cases ee
 | lv xs=>exact lists (by cases e <;> exact ee)
 | ob n=>exact lists (by cases e <;> exact ee)
 | non=>exact lists (by cases e <;> exact ee)
 | bl b=>exact lists (by cases e <;> exact ee)
 | ty b=>exact lists (by cases e <;> exact ee)
 | ro b=>exact lists (by cases e <;> exact ee)
 | dv b=>exact lists (by cases e <;> exact ee)
theorem fw {p:PyData} (h1:p.canLay0=true) (h2:p.depth≤64):SeqAt.shaped p=true:=by
 unfold PySem.SeqAt.shaped;rw [h1,decide_eq_true h2];rfl
theorem pY {K:PySem.W.Frag} {ρ:Ad} {H:Hp} {v:V} {d:D} (r:Rep K ρ H v d):decide (v=V.non)=isN d:=by
 cases r <;> rfl
theorem tU:OpS X (compareOp .Is) y1:=by
 intro pins s σ H x y v u Q I rx ry hh
 obtain ⟨ρ,h,d,e,z,h',S,rd,re,ee,k⟩:=hh
 cases e <;> first | (cases ee;done) | skip
 cases ee;cases re
 refine yG pins s σ H _ _ v u Q I rx ry ⟨rfl,?_⟩
 rw [pY rd]
 exact k _ _ (.here S (.bl _))
theorem l4:OpS X (compareOp .IsNot) qm:=by
 intro pins s σ H x y v u Q I rx ry hh
 obtain ⟨ρ,h,d,e,z,h',S,rd,re,ee,k⟩:=hh
 cases e <;> first | (cases ee;done) | skip
 cases ee;cases re
 refine wc pins s σ H _ _ v u Q I rx ry ⟨rfl,?_⟩
 rw [pY rd]
 exact k _ _ (.here S (.bl _))
theorem lB {h:Heap} {p:PyData} {f:Value→Bool}:∀{us:List Value} {ds:List PyData} {as:List Addr},ReadsAll h us ds as→(∀u d as,u∈us→Reads h u d as→d∈ds→f u=PyData.eqv d p)→us.any f=ds.any fun b=>PyData.eqv b p
 | _,_,_,.nil,_=>rfl
 | _,_,_,.cons r l,hf=>by
  rw [List.any_cons,List.any_cons,hf _ _ _ List.mem_cons_self r List.mem_cons_self,lB l fun u d as hu hr hd=>hf u d as (List.mem_cons_of_mem _ hu) hr (List.mem_cons_of_mem _ hd)]
open Classical in
noncomputable def eqF (h:Heap) (p:PyData) (u:Value):Bool:=if q:∃d as,Reads h u d as∧d.canLay0=true then PyData.eqv q.choose p else false
theorem ux {h:Heap} {p d:PyData} {u:Value} {as:List Addr} (r:Reads h u d as) (c:d.canLay0=true):eqF h p u=PyData.eqv d p:=by
 have q:∃d as,Reads h u d as∧d.canLay0=true:=⟨d,as,r,c⟩
 unfold eqF
 rw [dif_pos q]
 obtain ⟨as',r',c'⟩:=q.choose_spec
 rw [PySem.SeqAt.Reads.unique _ _ _ _ _ c' r' r]
theorem dZ:∀{ds:List PyData} {d:PyData},PyData.canLayAll0 ds=true→d∈ds→d.canLay0=true
 | x::r,d,c,m=>by
  simp only [PyData.canLayAll0,Bool.and_eq_true] at c
  rcases List.mem_cons.mp m with rfl | m
  ·exact c.1
  ·exact dZ c.2 m
theorem kZ:∀{ds:List PyData} {d:PyData},d∈ds→d.depth≤PyData.depthAll ds
 | x::r,d,m=>by
  simp only [PyData.depthAll]
  rcases List.mem_cons.mp m with rfl | m
  ·omega
  ·have:=kZ m;omega
end
end Sm
namespace Sm
open PySem L2 PySem.Spec PyProof.Rows
theorem kI {h:Heap}:∀{us:List Value} {ds:List PyData} {as:List Addr},ReadsAll h us ds as→∀y∈us,∃d as,Reads h y d as∧d∈ds
 | _,_,_,.nil,y,hy=>by cases hy
 | _,_,_,.cons r l,y,hy=>by
  rcases List.mem_cons.mp hy with rfl | hy
  ·exact ⟨_,_,r,List.mem_cons_self⟩
  ·obtain ⟨d,as,a1,a2⟩:=kI l y hy
   exact ⟨d,as,a1,List.mem_cons_of_mem _ a2⟩
section
variable {X:Cx} {pins:List (Addr×Obj)} {σ:L2.St} {H:Hp} {s:Shared} {ρ:Ad} {h:MH} {x y:V} {v u:Value} {d e:D}
theorem in_of (hu:X.A.units+64 < cLine) (I:L2.Inv X pins σ H s) (rx:L2.RelV x v) (ry:L2.RelV y u) (S:Sim X.K ρ h H) (rd:Rep X.K ρ H x d) (re:Rep X.K ρ H y e) {c:Bool} (ee:inD d e h=some c) {Q:Bool→Shared→Prop} (hq:∀s',L2.Inv X pins σ H s'→Q c s'):
  wpAny (model X.prog X.w) X.A (compareOp .In v u) (fun r s'=>∃c,r=.bool c∧Q c s') X.xe s∧wpAny (model X.prog X.w) X.A (compareOp .NotIn v u) (fun r s'=>∃c,r=.bool (!c)∧Q c s') X.xe s:=by
 unfold inD at ee
 cases qd:bp e h with
 | some kvs=>
  rw [qd] at ee
  obtain ⟨k,e1,e2⟩:=mpd ee
  obtain ⟨a,us,rfl,ha,l⟩:=cA S re qd
  obtain rfl:u=Value.ref a:=ry
  have ek:=cW rd e1
  subst ek
  have g:eG H a (kV k) (c5 us k):=eG.k ha
  have ec:(c5 us k).isSome=c:=by
   rw [←e2]
   rcases l.val k with ⟨h1,h2⟩ | ⟨d,v,h1,h2,_⟩
   ·rw [h1,h2];rfl
   ·rw [h1,h2];rfl
  refine ⟨BU (by omega) I g rx fun s' I'=>⟨c,by rw [ec],hq s' I'⟩,wJ (by omega) I g rx fun s' I'=>⟨c,by rw [ec],hq s' I'⟩⟩
 | none=>
  rw [qd] at ee
  dsimp only at ee
  have seqs:((bR e h).bind fun p=>(rdD h d).bind fun a=>(pyL p.1).bind fun bs=>if a.depth≤60∧PyData.depthAll bs≤60 then some (bs.any fun b=>PyData.eqv b a) else none)=some c→
    wpAny (model X.prog X.w) X.A (compareOp .In v u) (fun r s'=>∃c,r=.bool c∧Q c s') X.xe s∧wpAny (model X.prog X.w) X.A (compareOp .NotIn v u) (fun r s'=>∃c,r=.bool (!c)∧Q c s') X.xe s:=by
   intro ee
   obtain ⟨⟨xs,ws⟩,e1,e2⟩:=bnd ee
   obtain ⟨p,e3,e4⟩:=bnd e2
   obtain ⟨bs,e5,e6⟩:=bnd e4
   by_cases w:p.depth≤60∧PyData.depthAll bs≤60
   ·rw [if_pos w] at e6;cases e6
    obtain ⟨a,vs,rfl,hq',l⟩:=iN S re e1
    obtain rfl:u=Value.ref a:=ry
    obtain ⟨r1,c1⟩:=lY S rd e3
    obtain ⟨r2,c2⟩:=l.rds e5
    obtain ⟨as,ra⟩:=r1.reads I rx
    have key:∀its:List Value,Vals vs its→(∀y,y∈its→PySem.SeqAt.EqAt X.A.in1 s y v (eqF s.heap p y))∧its.any (eqF s.heap p)=bs.any fun b=>PyData.eqv b p:=by
     intro its rv
     obtain ⟨bs',rb⟩:=r2.reads I rv
     refine ⟨fun y hy=>?_,lB rb fun u d as _ hr hd=>ux hr (dZ c2 hd)⟩
     obtain ⟨d,as',hr,hd⟩:=kI rb y hy
     rw [ux hr (dZ c2 hd)]
     refine PySem.SeqAt.eqAt_reads d p _ s y v as' as hr ra (dZ c2 hd) c1 ?_
     have h1:=kZ hd
     have h2:min d.depth p.depth≤d.depth:=Nat.min_le_left _ _
     show X.A.units+1+min d.depth p.depth < cLine
     have h3:=w.2
     omega
    rcases hq' with hq' | hq'
    ·obtain ⟨its,rv,pl,_⟩:=I.list hq'
     obtain ⟨k1,k2⟩:=key its rv
     have k1':∀y,y∈its.toArray→PySem.SeqAt.EqAt X.A.in1 s y v (eqF s.heap p y):=fun y hy=>k1 y (by simpa using hy)
     have k2':its.toArray.any (eqF s.heap p)=bs.any fun b=>PyData.eqv b p:=by rw [←k2];simp
     exact ⟨PySem.SeqAt.in_listAt _ pl.isList k1' ⟨_,rfl,by rw [k2'];exact hq s I⟩,PySem.SeqAt.notIn_listAt _ pl.isList k1' ⟨_,rfl,by rw [k2'];exact hq s I⟩⟩
    ·obtain ⟨its,rv,pl,_⟩:=I.tuple hq'
     obtain ⟨k1,k2⟩:=key its rv
     have k1':∀y,y∈its.toArray→PySem.SeqAt.EqAt X.A.in1 s y v (eqF s.heap p y):=fun y hy=>k1 y (by simpa using hy)
     have k2':its.toArray.any (eqF s.heap p)=bs.any fun b=>PyData.eqv b p:=by rw [←k2];simp
     exact ⟨PySem.SeqAt.in_tupleAt _ pl k1' ⟨_,rfl,by rw [k2'];exact hq s I⟩,PySem.SeqAt.notIn_tupleAt _ pl k1' ⟨_,rfl,by rw [k2'];exact hq s I⟩⟩
   ·rw [if_neg w] at e6;cases e6
  by_cases hs:(∃a,d=.str a)∧∃b,e=.str b
  ·obtain ⟨⟨a,rfl⟩,b,rfl⟩:=hs
   cases ee
   cases rd;cases re
   obtain ⟨t,rfl⟩:=rx
   obtain ⟨t',rfl⟩:=ry
   exact ⟨in_str ⟨_,rfl,hq s I⟩,notIn_str ⟨_,rfl,hq s I⟩⟩
  ·refine seqs ?_
   cases d <;> first | exact ee | skip
   cases e <;> first | exact ee | skip
   exact absurd ⟨⟨_,rfl⟩,_,rfl⟩ hs
theorem xh (hu:X.A.units+64 < cLine):OpS X (compareOp .In) fIn:=by
 intro pins s σ H x y v u Q I rx ry hh
 obtain ⟨ρ,h,d,e,z,h',S,rd,re,ee,k⟩:=hh
 obtain ⟨c,e1,e2⟩:=mpd ee
 cases e2
 refine thn (in_of hu I rx ry S rd re e1 (Q:=fun c' s'=>c'=c∧L2.Inv X pins σ H s') fun s' I'=>⟨rfl,I'⟩).1 fun r s' ⟨c',hr,hc,I'⟩=>?_
 subst hr;subst hc
 exact ⟨.bl _,H,I',rfl,k _ _ (.here S (.bl _))⟩
theorem jj (hu:X.A.units+64 < cLine):OpS X (compareOp .NotIn) di:=by
 intro pins s σ H x y v u Q I rx ry hh
 obtain ⟨ρ,h,d,e,z,h',S,rd,re,ee,k⟩:=hh
 obtain ⟨c,e1,e2⟩:=mpd ee
 cases e2
 refine thn (in_of hu I rx ry S rd re e1 (Q:=fun c' s'=>c'=c∧L2.Inv X pins σ H s') fun s' I'=>⟨rfl,I'⟩).2 fun r s' ⟨c',hr,hc,I'⟩=>?_
 subst hr;subst hc
 exact ⟨.bl _,H,I',rfl,k _ _ (.here S (.bl _))⟩
end
end Sm
namespace Sm
open PySem L2 PySem.Spec PyProof.Rows
theorem wO {K:PySem.W.Frag} {ρ:Ad} {H:Hp} {vs:List V} {ds:List D} {i:Int} {d:D} (l:RepL K ρ H vs ds) (e:atI ds i=some d):∃v,atI vs i=some v∧Rep K ρ H v d:=by
 unfold atI at e
 obtain ⟨j,e1,e2⟩:=bnd e
 obtain ⟨v,e3,r⟩:=l.got e2
 exact ⟨v,by unfold atI;rw [l.length,e1];exact e3,r⟩
section
variable {X:Cx}
theorem AJ (hu:X.A.units+64 < cLine):IxR X (rS X.K fIx):=by
 intro value slice pins s σ H x y v u Q I rx ry hh hs
 obtain ⟨ρ,h,d,e,z,h',S,rd,re,ee,k⟩:=hh
 unfold fIx at ee
 cases qd:bp d h with
 | some kvs=>
  rw [qd] at ee
  obtain ⟨ky,e1,e2⟩:=bnd ee
  obtain ⟨z',e3,e4⟩:=mpd e2
  cases e4
  obtain ⟨a,us,rfl,ha,l⟩:=cA S rd qd
  obtain rfl:v=Value.ref a:=rx
  have ek:=cW re e1
  subst ek
  rcases l.val ky with ⟨h1,h2⟩ | ⟨d',w,h1,h2,r⟩
  ·rw [h1] at e3;cases e3
  ·rw [h1] at e3;cases e3
   have g:eG H a (kV ky) (some w):=by rw [←h2];exact eG.k ha
   exact tail_any (iB I g) PySem.F.slot_dict_getitem.lookup (lh (by omega) I g ry fun w' s3 I3 rw'=>⟨w,H,I3,rw',k _ _ (.here S r)⟩) hs
 | none=>
  rw [qd] at ee
  dsimp only at ee
  cases e <;> first | (cases d <;> (cases ee;done)) | skip
  rename_i i
  have seqs:((bR d h).bind fun p=>(atI p.1 i).map fun z=>(z,h))=some (z,h')→wpAny (model X.prog X.w) X.A (subscriptTail value slice v u) (EP X pins σ Q) X.xe s:=by
   intro ee
   obtain ⟨⟨xs,ws⟩,e1,e2⟩:=bnd ee
   obtain ⟨z',e3,e4⟩:=mpd e2
   cases e4
   obtain ⟨a,vs,rfl,hq',l⟩:=iN S rd e1
   obtain ⟨w,e5,r⟩:=wO l e3
   cases re
   rcases hq' with hq' | hq'
   ·exact wz value slice pins s σ H _ _ v u Q I rx ry ⟨a,vs,i,w,rfl,rfl,hq',e5,k _ _ (.here S r)⟩ hs
   ·exact yR value slice pins s σ H _ _ v u Q I rx ry ⟨a,vs,i,w,rfl,rfl,hq',e5,k _ _ (.here S r)⟩ hs
  cases d with
  | str x0=>
   dsimp only at ee
   by_cases c:x0.length≤sizeLine
   ·rw [if_pos c] at ee
    obtain ⟨ch,e3,e4⟩:=mpd ee
    cases e4
    cases rd with | str hs0=>
    cases re
    exact yS value slice pins s σ H _ _ v u Q I rx ry ⟨x0,i,ch,rfl,rfl,c,e3,k _ _ (.here S (.str (qM hs0 e3)))⟩ hs
   ·rw [if_neg c] at ee;cases ee
  | _=>exact seqs ee
theorem aS {a b:Expr} {pos:Pos} {ma mb:EM} (hu:X.A.units+64 < cLine) (ha:SE X a ma) (hb:SE X b mb) (hs:mM b:=by unfold mM;intro _ _;kernel_rfl):SE X (.Subscript a b pos) (eOp fIx ma mb):=(Am (AJ hu) ha hb hs).imp fun _ _ _=>pZ
abbrev PM:=DS→MH→Option (Option Int×MH)
def pNo:PM:=fun _ h=>some (none,h)
def pAt (e:EM):PM:=fun δ h=>(e δ h).bind fun p=>match p.1 with
 | .int i=>some (some i,p.2)
 | _=>none
inductive TMOi (K:PySem.W.Frag) (m:PM) (σ:L2.St) (H:Hp) (Q:Option Int→Hp→Prop):Prop where
 | mk (ρ δ h b h'):RepS K ρ H σ δ→Sim K ρ h H→(m δ h=some (b,h'))→(∀ρ' H',Stp ρ H ρ' H'→Sim K ρ' h' H'→Q b H')→TMOi K m σ H Q
def tMO (K:PySem.W.Frag) (m:PM):TO:=fun σ H Q=>TMOi K m σ H Q
def SP' (X:Cx) (e:Option Expr) (m:PM):Prop:=PO X e (tMO X.K m)
theorem lL:SP' X none pNo:=fun pins s σ H Q I hh=>by
 obtain ⟨ρ,δ,h,b,h',R,S,e,k⟩:=hh
 cases e
 exact vR pins s σ H Q I (k ρ H (.refl _ _) S)
theorem lK {e:Expr} {ma:EM} (he:SE X e ma):SP' X (some e) (pAt ma):=fun pins s σ H Q I hh=>by
 obtain ⟨ρ,δ,h,b,h',R,S,e,k⟩:=hh
 obtain ⟨⟨x,h1⟩,e1,e2⟩:=bnd e
 cases x <;> first | (cases e2;done) | skip
 cases e2
 refine vQ he pins s σ H Q I ⟨ρ,δ,h,_,_,R,S,e1,fun v H' ⟨ρ',T,S',r⟩=>?_⟩
 cases r
 exact ⟨_,rfl,k ρ' H' T S'⟩
def cutD (xs:List D) (lo hi:Option Int):List D:=(xs.drop (HT.sIx xs.length 0 lo)).take (HT.sIx xs.length xs.length hi-HT.sIx xs.length 0 lo)
def fSl (d:D) (lo hi:Option Int) (h:MH):Option (D×MH):=match d with
 | .str z=>if z.length≤sizeLine then some (.str (Txt.slice z lo hi),h) else none
 | .tup xs=>if HT.sIx xs.length 0 lo=0∧HT.sIx xs.length xs.length hi=xs.length then none else some (.tup (cutD xs lo hi),h)
 | d=>(bR d h).map fun p=>(.lv (cutD p.1 lo hi),h)
def eSl (a:EM) (l u:PM):EM:=fun δ h=>(a δ h).bind fun p=>(l δ p.2).bind fun q=>(u δ q.2).bind fun r=>fSl p.1 q.1 r.1 r.2
inductive RSLi (K:PySem.W.Frag) (x:V) (lo hi:Option Int) (H:Hp) (Q:VK):Prop where
 | mk (ρ h d z h'):Sim K ρ h H→Rep K ρ H x d→(fSl d lo hi h=some (z,h'))→(∀v H',bM K ρ H h' z v H'→Q v H')→RSLi K x lo hi H Q
def rSl (K:PySem.W.Frag):V→Option Int→Option Int→Hp→VK→Prop:=fun x lo hi H Q=>RSLi K x lo hi H Q
theorem RepL.jI {K:PySem.W.Frag} {ρ:Ad} {H:Hp} {vs:List V} {ds:List D} (l:RepL K ρ H vs ds) (lo hi:Option Int):RepL K ρ H (L2.jI vs lo hi) (cutD ds lo hi):=by
 unfold L2.jI cutD
 rw [l.length]
 exact (l.drop _).take _
theorem wY:SlR X (rSl X.K):=by
 intro pins s σ H x v vl vu lo hi sl Q I rx hs pl pu hh
 obtain ⟨ρ,h,d,z,h',S,rd,ee,k⟩:=hh
 have lists:kc d=true→((bR d h).map fun p=>(D.lv (cutD p.1 lo hi),h))=some (z,h')→∃T id,typeLookup (.type T) "__getitem__"=pure (some (.builtin id))∧s.TypeIs v T∧wpAny (model X.prog X.w) X.A (getItem v (.ref sl)) (EP X pins σ Q) X.xe s:=by
  intro nt e2
  obtain ⟨⟨xs,ws⟩,e1,e2⟩:=mpd e2
  cases e2
  obtain ⟨a,rfl,⟨vs,q,l⟩,_⟩:=gP S rd e1
  rw [nt] at q
  cases q with
  | l q=>exact vc pins s σ H _ v vl vu lo hi sl Q I rx hs pl pu ⟨a,vs,rfl,q,fun p hp=>k _ _ (.lv S (l.jI lo hi) hp)⟩
 cases d with
 | str x0=>
  unfold fSl at ee
  dsimp only at ee
  by_cases c:x0.length≤sizeLine
  ·rw [if_pos c] at ee;cases ee
   cases rd with | str hs0=>
   exact xK pins s σ H _ v vl vu lo hi sl Q I rx hs pl pu ⟨x0,rfl,c,k _ _ (.here S (.str (mX _ _ hs0)))⟩
  ·rw [if_neg c] at ee;cases ee
 | tup xs=>
  unfold fSl at ee
  dsimp only at ee
  by_cases c:HT.sIx xs.length 0 lo=0∧HT.sIx xs.length xs.length hi=xs.length
  ·rw [if_pos c] at ee;cases ee
  ·rw [if_neg c] at ee;cases ee
   cases rd with | tup h0 l0=>
   exact xJ pins s σ H _ v vl vu lo hi sl Q I rx hs pl pu ⟨_,_,rfl,h0.sq,by rw [l0.length];exact c,fun p hp=>k _ _ (.tup S (l0.jI lo hi) hp)⟩
 | _=>exact lists rfl ee
theorem bh {x:Str} {id:String} {p pos:Pos} {e:Expr} {es:List Expr} {f:Fn} {m:AM} (hc:eC X (.builtin id) f) (hg:Gl X x) (hm:X.mg x=none) (hv:bootBuiltins x=some (.builtin id)) (ha:SA X (e::es) m) (hn:x≠"__name__":=by decide) (hdb:(x==("__debug__":Str))=false:=by kernel_rfl)
  (he:starEach (e::es) X.env=(false,eval e X.env)::starEach es X.env:=by kernel_rfl) (hpl:(backTo pos (starEach es X.env)).any (·.1)=false:=by kernel_rfl):SE X (.Call (.Name x p) (e::es) [] pos) (eFn f m):=
 (jh hc hg hm hv ha hn hdb he hpl).imp fun σ H Q ⟨ρ,δ,h,d,h',R,S,e,k⟩=>by
  obtain ⟨⟨ds,h1⟩,e1,e2⟩:=bnd e
  exact ⟨ρ,δ,h,ds,h1,R,S,e1,fun vs ρ1 H1 T1 S1 r1=>⟨ρ1,h1,ds,d,h',S1,r1,e2,fun v H' P=>k v H' (P.step T1)⟩⟩
theorem gh {x:Str} {id:String} {p pos:Pos} {e:Expr} {es:List Expr} {f:Fn} {m:AM} (hc:eC X (.type id) f) (hg:Gl X x) (hm:X.mg x=none) (hv:bootBuiltins x=some (.type id)) (ha:SA X (e::es) m) (hn:x≠"__name__":=by decide) (hdb:(x==("__debug__":Str))=false:=by kernel_rfl)
  (he:starEach (e::es) X.env=(false,eval e X.env)::starEach es X.env:=by kernel_rfl) (hpl:(backTo pos (starEach es X.env)).any (·.1)=false:=by kernel_rfl):SE X (.Call (.Name x p) (e::es) [] pos) (eFn f m):=
 (kN hc hg hm hv ha hn hdb he hpl).imp fun σ H Q ⟨ρ,δ,h,d,h',R,S,e,k⟩=>by
  obtain ⟨⟨ds,h1⟩,e1,e2⟩:=bnd e
  exact ⟨ρ,δ,h,ds,h1,R,S,e1,fun vs ρ1 H1 T1 S1 r1=>⟨ρ1,h1,ds,d,h',S1,r1,e2,fun v H' P=>k v H' (P.step T1)⟩⟩
def fb:Fn:=fun ds h=>match ds with
 | [.str z]=>if z.length≤sizeLine then some (.int z.length,h) else none
 | [d]=>match bp d h with
  | some kvs=>some (.int kvs.length,h)
  | none=>(bR d h).map fun p=>(.int p.1.length,h)
 | _=>none
def y4:Fn:=fun ds h=>match ds with
 | [.int i]=>some (.int (if i < 0 then -i else i),h)
 | _=>none
def tyD (d:D) (h:MH):Option String:=match d with
 | .non=>some "NoneType"
 | .bl _=>some "bool"
 | .int _=>some "int"
 | .str _=>some "str"
 | .tup _=>some "tuple"
 | .lv _=>some "list"
 | .dv _=>some "dict"
 | .ob n=>match h[n]? with
  | some (.lst _)=>some "list"
  | some (.dct _)=>some "dict"
  | none=>none
 | _=>none
def sL (t n:String):Bool:=t==n||(t=="bool"&&n=="int")
def y0:Fn:=fun ds h=>match ds with
 | [d,.ty n]=>if n∈["int","str","bool","tuple","list","dict"] then (tyD d h).map fun t=>(.bl (sL t n),h) else none
 | _=>none
def pk:Fn:=fun ds h=>match ds with
 | [d]=>(bR d h).map fun p=>(.tup p.1,h)
 | _=>none
def ki:List D→Option (List Bool)
 | []=>some []
 | .bl b::r=>(ki r).map fun bs=>b::bs
 | _=>none
def AR:Fn:=fun ds h=>match ds with
 | [d]=>(g6 d h).bind fun xs=>(ki xs).map fun bs=>(.bl (bs.all id),h)
 | _=>none
def y2:Fn:=fun ds h=>match ds with
 | [d]=>(g6 d h).bind fun xs=>(ki xs).map fun bs=>(.bl (bs.any id),h)
 | _=>none
theorem rep1 {K:PySem.W.Frag} {ρ:Ad} {H:Hp} {vs:List V} {d:D} (l:RepL K ρ H vs [d]):∃v,vs=[v]∧Rep K ρ H v d:=by
 cases l with
 | cons r l=>cases l;exact ⟨_,rfl,r⟩
theorem rep2 {K:PySem.W.Frag} {ρ:Ad} {H:Hp} {vs:List V} {d e:D} (l:RepL K ρ H vs [d,e]):∃v u,vs=[v,u]∧Rep K ρ H v d∧Rep K ρ H u e:=by
 cases l with
 | cons r l=>cases l with
  | cons r' l=>cases l;exact ⟨_,_,rfl,r,r'⟩
theorem fY:eC X (.builtin "len") fb:=by
 intro pins s σ H xs us Q I r hh
 obtain ⟨ρ,h,ds,z,h',S,l,ee,k⟩:=hh
 match ds,l,ee with
 | [],_,ee=>cases ee
 | _::_::_,_,ee=>exact absurd ee (by unfold fb;split <;> simp_all)
 | [d],l,ee=>
  obtain ⟨v,rfl,rd⟩:=rep1 l
  have oth:(match bp d h with | some kvs=>some (D.int kvs.length,h) | none=>(bR d h).map fun p=>(D.int p.1.length,h))=some (z,h')→wpAny (model X.prog X.w) X.A (call (.builtin "len") us) (EP X pins σ Q) X.xe s:=by
   intro ee
   cases q:bp d h with
   | some kvs=>
    rw [q] at ee;cases ee
    obtain ⟨a,ws,rfl,ha,lk⟩:=cA S rd q
    refine sd pins s σ H _ us Q I r ⟨a,ws,rfl,ha,k _ _ ?_⟩
    rw [lk.length]
    exact .here S (.int _)
   | none=>
    rw [q] at ee
    obtain ⟨⟨ys,w⟩,e1,e2⟩:=mpd ee
    cases e2
    obtain ⟨a,vs,rfl,hq,l2⟩:=iN S rd e1
    refine mI pins s σ H _ us Q I r ⟨a,vs,rfl,hq,k _ _ ?_⟩
    rw [l2.length]
    exact .here S (.int _)
  cases d with
  | str x0=>
   unfold fb at ee
   dsimp only at ee
   by_cases c:x0.length≤sizeLine
   ·rw [if_pos c] at ee;cases ee
    cases rd
    exact mH pins s σ H _ us Q I r ⟨x0,rfl,c,k _ _ (.here S (.int _))⟩
   ·rw [if_neg c] at ee;cases ee
  | _=>exact oth ee
theorem uJ:eC X (.builtin "abs") y4:=by
 intro pins s σ H xs us Q I r hh
 obtain ⟨ρ,h,ds,z,h',S,l,ee,k⟩:=hh
 match ds,l,ee with
 | [],_,ee=>cases ee
 | d::_::_,_,ee=>cases d <;> cases ee
 | [d],l,ee=>
  obtain ⟨v,rfl,rd⟩:=rep1 l
  cases rd <;> first | (cases ee;done) | skip
  cases ee
  exact uP pins s σ H _ us Q I r ⟨_,rfl,k _ _ (.here S (.int _))⟩
theorem n4:eC X (.type "tuple") pk:=by
 intro pins s σ H xs us Q I r hh
 obtain ⟨ρ,h,ds,z,h',S,l,ee,k⟩:=hh
 match ds,l,ee with
 | [],_,ee=>cases ee
 | _::_::_,_,ee=>cases ee
 | [d],l,ee=>
  obtain ⟨v,rfl,rd⟩:=rep1 l
  obtain ⟨⟨ys,w⟩,e1,e2⟩:=mpd ee
  cases e2
  obtain ⟨a,rfl,⟨vs,q,l2⟩,_⟩:=gP S rd e1
  refine kg pins s σ H _ us Q I r ⟨a,vs,rfl,?_⟩
  generalize hb:kc d=b at q
  cases q with
  | l q=>exact .inl ⟨q,fun p hp=>k _ _ (.tup S l2 hp)⟩
  | t q=>
   refine .inr ⟨q,k _ _ ?_⟩
   cases rd <;> first | (cases hb;done) | skip
   cases e1
   exact .here S (.tup ‹_› ‹_›)
theorem pE {K:PySem.W.Frag} {ρ:Ad} {H:Hp}:∀{vs:List V} {xs:List D} {bs:List Bool},RepL K ρ H vs xs→ki xs=some bs→vs=bs.map V.bl
 | _,_,_,.nil,e=>by cases e;rfl
 | _,_,_,.cons r l,e=>by
  cases r <;> first | (cases e;done) | skip
  obtain ⟨bs',e1,e2⟩:=mpd e
  cases e2
  rw [pE l e1];rfl
theorem zc (hc:X.calm=true):eC X (.builtin "all") AR:=by
 intro pins s σ H xs us Q I r hh
 obtain ⟨ρ,h,ds,z,h',S,l,ee,k⟩:=hh
 match ds,l,ee with
 | [],_,ee=>cases ee
 | _::_::_,_,ee=>cases ee
 | [d],l,ee=>
  obtain ⟨v,rfl,rd⟩:=rep1 l
  obtain ⟨ys,e1,e2⟩:=bnd ee
  obtain ⟨bs,e3,e4⟩:=mpd e2
  cases e4
  obtain ⟨a,vs,rfl,ha,l2⟩:=dU S rd e1
  rw [pE l2 e3] at ha
  exact uO hc pins s σ H _ us Q I r ⟨a,bs,rfl,SqL.of ha,k _ _ (.here S (.bl _))⟩
theorem zb (hc:X.calm=true):eC X (.builtin "any") y2:=by
 intro pins s σ H xs us Q I r hh
 obtain ⟨ρ,h,ds,z,h',S,l,ee,k⟩:=hh
 match ds,l,ee with
 | [],_,ee=>cases ee
 | _::_::_,_,ee=>cases ee
 | [d],l,ee=>
  obtain ⟨v,rfl,rd⟩:=rep1 l
  obtain ⟨ys,e1,e2⟩:=bnd ee
  obtain ⟨bs,e3,e4⟩:=mpd e2
  cases e4
  obtain ⟨a,vs,rfl,ha,l2⟩:=dU S rd e1
  rw [pE l2 e3] at ha
  exact uN hc pins s σ H _ us Q I r ⟨a,bs,rfl,SqL.of ha,k _ _ (.here S (.bl _))⟩
end
end Sm
namespace Sm
open PySem L2 PySem.Spec PyProof.Rows
section
variable {X:Cx}
theorem qg {K:PySem.W.Frag} {t n:String} (ht:t∈["NoneType","bool","int","str","tuple","list","dict"]) (hn:n∈["int","str","bool","tuple","list","dict"]):PySem.W.kitOne K (.type t) (.type n)=some (sL t n):=by
 simp only [List.mem_cons,List.mem_nil_iff,or_false] at ht hn
 rcases ht with rfl | rfl | rfl | rfl | rfl | rfl | rfl <;> rcases hn with rfl | rfl | rfl | rfl | rfl | rfl <;> rfl
theorem za:eC X (.builtin "isinstance") y0:=by
 intro pins s σ H xs us Q I r hh
 obtain ⟨ρ,h,ds,z,h',S,l,ee,k⟩:=hh
 match ds,l,ee with
 | [],_,ee=>cases ee
 | [_],_,ee=>cases ee
 | _::d::_::_,_,ee=>cases d <;> cases ee
 | [d,c],l,ee=>
  cases c <;> first | (cases ee;done) | skip
  rename_i n
  unfold y0 at ee
  dsimp only at ee
  by_cases hn:n∈["int","str","bool","tuple","list","dict"]
  ·rw [if_pos hn] at ee
   obtain ⟨t,e1,e2⟩:=mpd ee
   cases e2
   obtain ⟨v,u,rfl,rd,ru⟩:=rep2 l
   cases ru
   have fin:=k (.bl (sL t n)) H (.here S (.bl _))
   have go:∀ty,TyOf X.K H v (.type ty)→t=ty→ty∈["NoneType","bool","int","str","tuple","list","dict"]→wpAny (model X.prog X.w) X.A (call (.builtin "isinstance") us) (EP X pins σ Q) X.xe s:=fun ty hty e hm=>by
    subst e
    exact uM pins s σ H _ us Q I r ⟨v,n,_,_,rfl,hty,qg hm hn,fin⟩
   cases rd with
   | non=>cases e1;exact go _ .non rfl (by decide)
   | bl b=>cases e1;exact go _ (.bl b) rfl (by decide)
   | int i=>cases e1;exact go _ (.int i) rfl (by decide)
   | str h0=>cases e1;exact go _ (.str _) rfl (by decide)
   | ty _=>cases e1
   | ro _ _=>cases e1
   | lv h0 _ _=>cases e1;exact go _ (.lst h0) rfl (by decide)
   | dv h0 _ _=>cases e1;exact go _ (.dK h0) rfl (by decide)
   | @ob a m hm=>
    unfold tyD at e1
    dsimp only at e1
    cases q:h[m]? with
    | none=>rw [q] at e1;cases e1
    | some o=>
     rw [q] at e1
     have x:=S.at_ m a o hm q
     cases o with
     | lst _=>cases e1;obtain ⟨vs,e3,_⟩:=x;exact go _ (.lst e3) rfl (by decide)
     | dct _=>cases e1;obtain ⟨vs,e3,_⟩:=x;exact go _ (.dK e3) rfl (by decide)
   | @tup a vs ds h0 l0=>
    cases e1
    obtain ⟨u1,u2,rfl,r1,r2⟩:=Vals.two r
    obtain rfl:u1=Value.ref a:=r1
    obtain rfl:u2=Value.type n:=r2
    obtain ⟨its,_,⟨o,h1,h2,_⟩,_⟩:=I.tuple h0.sq
    exact PySem.W.kia_one PySem.W.kitx_tuple I.kIn ⟨o,h1,h2⟩ (qg (t:="tuple") (by decide) hn) (fun z=>nomatch z) fun tk=>⟨.bl _,H,I.tok tk,rfl,fin⟩
  ·rw [if_neg hn] at ee;cases ee
def uY (m:AM):AM:=fun δ h=>(m δ h).bind fun p=>match p.1 with
 | [d]=>(bR d p.2).map fun q=>(q.1,p.2)
 | _=>none
theorem vf {x:Str} {p pos:Pos} {e:Expr} {m:AM} (hg:Gl X x) (hm:X.mg x=none) (hv:bootBuiltins x=some (.type "list")) (ha:SA X [e] m) (hl:iL m 1) (hn:x≠"__name__":=by decide) (hdb:(x==("__debug__":Str))=false:=by kernel_rfl)
  (he:starEach [e] X.env=(false,eval e X.env)::starEach [] X.env:=by kernel_rfl) (hpl:(backTo pos (starEach [] X.env)).any (·.1)=false:=by kernel_rfl):SFL X (.Call (.Name x p) [e] [] pos) (uY m):=
 (kN mG hg hm hv ha hn hdb he hpl).imp fun σ H Q ⟨ρ,δ,h,d,h',R,S,e,k⟩=>by
  obtain ⟨⟨ds,h1⟩,e1,e2⟩:=bnd e
  refine ⟨ρ,δ,h,ds,h1,R,S,e1,fun vs ρ1 H1 T1 S1 r1=>?_⟩
  match ds,hl _ _ _ _ e1,e2,r1 with
  | [d],_,e2,r1=>
   obtain ⟨⟨ys,w⟩,e3,e4⟩:=mpd e2
   cases e4
   obtain ⟨v,rfl,rd⟩:=rep1 r1
   obtain ⟨a,ws,rfl,hq,l2⟩:=iN S1 rd e3
   exact ⟨a,ws,rfl,hq,fun l hl=>k ρ1 H1 l ws T1 S1 hl l2⟩
def ke (o i v:D) (h:MH):Option MH:=match o with
 | .ob n=>match h[n]? with
  | some (.lst xs)=>match i with
   | .int j=>(ixN xs.length j).map fun p=>h.set n (.lst (xs.set p v))
   | _=>none
  | some (.dct kvs)=>(fy i).bind fun k=>if kvs.length < sizeLine then some (h.set n (.dct (putD kvs k v))) else none
  | none=>none
 | _=>none
def fz (o i:EM):GM:=fun v δ h=>(o δ h).bind fun p=>(i δ p.2).bind fun q=>(ke p.1 q.1 v q.2).map fun h'=>(δ,h')
inductive RSETi (K:PySem.W.Frag) (o i v:V) (H:Hp) (Q:Hp→Prop):Prop where
 | mk (ρ h a b c h'):Sim K ρ h H→Rep K ρ H o a→Rep K ρ H i b→Rep K ρ H v c→(ke a b c h=some h')→(∀ρ' H',Stp ρ H ρ' H'→Sim K ρ' h' H'→Q H')→RSETi K o i v H Q
def BB (K:PySem.W.Frag):V→V→V→Hp→(Hp→Prop)→Prop:=fun o i v H Q=>RSETi K o i v H Q
theorem vM (hu:X.A.units+64 < cLine):zl X (BB X.K):=by
 intro pins s σ H o i v ov iv u Q I ro ri rv hh
 obtain ⟨ρ,h,a,b,c,h',S,ra,rb,rc,ee,k⟩:=hh
 cases ra <;> first | (cases ee;done) | skip
 rename_i a n hn
 unfold ke at ee
 dsimp only at ee
 cases q:h[n]? with
 | none=>rw [q] at ee;cases ee
 | some w=>
  rw [q] at ee
  have x:=S.at_ n a w hn q
  have ma:=List.mem_of_getElem? hn
  cases w with
  | lst xs=>
   dsimp only at ee
   cases rb <;> first | (cases ee;done) | skip
   rename_i j
   obtain ⟨p,e1,e2⟩:=mpd ee
   cases e2
   obtain ⟨vs,e3,l⟩:=x
   have T:Stp ρ H ρ (upd H a (.lst (vs.set p v))):=Stp.wrote S ma
   exact set_list pins s σ H _ _ v ov iv u Q I ro ri rv ⟨a,vs,j,p,rfl,rfl,e3,by rw [l.length];exact e1,k ρ _ T (S.wrote hn ⟨_,ar,(l.set rc p).mono T.toCh⟩)⟩
  | dct kvs=>
   dsimp only at ee
   obtain ⟨ky,e1,e2⟩:=bnd ee
   by_cases z:kvs.length < sizeLine
   ·rw [if_pos z] at e2;cases e2
    obtain ⟨us,e3,l⟩:=x
    have ek:=cW rb e1
    subst ek
    obtain rfl:ov=Value.ref a:=ro
    have T:Stp ρ H ρ (upd H a (.dK (putK us ky v))):=Stp.wrote S ma
    exact lg (by omega) I (sg.k e3 (by rw [l.length];exact z)) ri rv fun s' I'=>⟨_,I',k ρ _ T (S.wrote hn ⟨_,ar,(l.put rc).mono T.toCh⟩)⟩
   ·rw [if_neg z] at e2;cases e2
theorem fG {o i:Expr} {pos:Pos} {mo mi:EM} (hu:X.A.units+64 < cLine) (ho:SE X o mo) (hi:SE X i mi)
  (ha:∀v,assign (.Subscript o i pos) X.env v=(do
   let ov←holding [v] (eval o X.env)
   let iv←holding [v,ov] (eval i X.env)
   standAt pos
   holding [v,ov,iv] (setItem ov iv v)
   release [v,ov,iv] []):=by intro _;kernel_rfl):SG X (.Subscript o i pos) (fz mo mi):=
 (ym ho hi (vM hu) ha).imp fun v σ H Q ⟨ρ,δ,h,d,δ',h',R,S,r,e,k⟩=>by
  obtain ⟨⟨x,h1⟩,e1,e2⟩:=bnd e
  obtain ⟨⟨y,h2⟩,e3,e4⟩:=bnd e2
  obtain ⟨h3,e5,e6⟩:=mpd e4
  cases e6
  exact ⟨ρ,δ,h,x,h1,R,S,e1,fun ov H1 ⟨ρ1,T1,S1,r1⟩=>⟨ρ1,δ,h1,y,h2,R.mono T1,S1,e3,fun iv H2 ⟨ρ2,T2,S2,r2⟩=>
   ⟨ρ2,h2,x,y,d,_,S2,r1.mono T2,r2,r.mono (T1.trans T2).toCh,e5,fun ρ3 H3 T3 S3=>k ρ3 H3 σ (T1.trans (T2.trans T3)) S3 (R.mono (T1.trans (T2.trans T3)).toCh)⟩⟩⟩
abbrev MFn:=D→List D→MH→Option (D×MH)
inductive RMi (K:PySem.W.Frag) (f:MFn) (x:V) (vs:List V) (H:Hp) (Q:VK):Prop where
 | mk (ρ h d ds z h'):Sim K ρ h H→Rep K ρ H x d→RepL K ρ H vs ds→(f d ds h=some (z,h'))→(∀v H',bM K ρ H h' z v H'→Q v H')→RMi K f x vs H Q
def rM (K:PySem.W.Frag) (f:MFn):V→List V→Hp→VK→Prop:=fun x vs H Q=>RMi K f x vs H Q
def eM (isT:D→MH→Bool) (f:MFn) (o:EM) (m:AM):EM:=fun δ h=>(o δ h).bind fun p=>if isT p.1 p.2 then (m δ p.2).bind fun q=>f p.1 q.1 q.2 else none
def cP (d:D) (h:MH):Bool:=(g6 d h).isSome
def iz (d:D) (h:MH):Bool:=(bp d h).isSome
def cv:MFn:=fun d ds h=>match d,ds with
 | .ob n,[y]=>match h[n]? with
  | some (.lst xs)=>if xs.length < sizeLine then some (.non,h.set n (.lst (xs++[y]))) else none
  | _=>none
 | _,_=>none
def ft:MFn:=fun d ds h=>match d,ds with
 | .ob n,[y]=>match h[n]? with
  | some (.lst xs)=>(g6 y h).bind fun zs=>if xs.length+zs.length≤sizeLine then some (.non,h.set n (.lst (xs++zs))) else none
  | _=>none
 | _,_=>none
theorem lE {K:PySem.W.Frag} {ρ:Ad} {H:Hp} {h:MH} {v:V} {d:D} (S:Sim K ρ h H) (r:Rep K ρ H v d) (e:cP d h=true):tyV K "list" v H:=by
 obtain ⟨xs,e1⟩:=Option.isSome_iff_exists.mp e
 obtain ⟨a,vs,rfl,ha,_⟩:=dU S r e1
 exact .inl ⟨rfl,vs,SqL.of ha⟩
theorem so {K:PySem.W.Frag} {ρ:Ad} {H:Hp} {h:MH} {v:V} {d:D} (S:Sim K ρ h H) (r:Rep K ρ H v d) (e:iz d h=true):tyV K "dict" v H:=by
 obtain ⟨xs,e1⟩:=Option.isSome_iff_exists.mp e
 obtain ⟨a,vs,rfl,ha,_⟩:=cA S r e1
 exact .inr (.inr (.inl ⟨rfl,.inl ⟨vs,ha⟩⟩))
theorem qT {T id:String} {name:Str} {o e:Expr} {es:List Expr} {apos cpos:Pos} {f:MFn} {mo:EM} {m:AM} {isT:D→MH→Bool} (hT:∀{K:PySem.W.Frag} {ρ:Ad} {H:Hp} {h:MH} {v:V} {d:D},Sim K ρ h H→Rep K ρ H v d→isT d h=true→tyV K T v H)
  (pa:PlainAttrs T) (slot:Slot T name id) (hty:typeOf (.builtin id)=pure (.type "method_descriptor")) (hm:MtR X id (rM X.K f)) (ho:SE X o mo) (ha:SA X (e::es) m)
  (hbase:attributeBase o name X.env (eval o X.env)=eval o X.env:=by kernel_rfl)
  (hfew:((backTo cpos (starEach (e::es) X.env)).all (fun x=>!x.1)&&(backToKw cpos (keywordEach [] X.env)).all (fun x=>x.1.isSome)
   &&decide ((e::es).length+([]:List Keyword).length+(if ([]:List Keyword).isEmpty then 0 else 1) < 30))=true:=by kernel_rfl)
  (hline:(apos.endLine==cpos.line)=true:=by kernel_rfl) (hs:starEach (e::es) X.env=(false,eval e X.env)::starEach es X.env:=by kernel_rfl) (hplain:(backTo cpos (starEach es X.env)).any (·.1)=false:=by kernel_rfl):
  SE X (.Call (.Attribute o name apos) (e::es) [] cpos) (eM isT f mo m):=(An pa slot hty hm ho ha hbase hfew hline hs hplain).imp fun σ H Q ⟨ρ,δ,h,d,h',R,S,e,k⟩=>by
 obtain ⟨⟨x,h1⟩,e1,e2⟩:=bnd e
 dsimp only at e2
 by_cases c:isT x h1=true
 ·rw [if_pos c] at e2
  obtain ⟨⟨ds,h2⟩,e3,e4⟩:=bnd e2
  exact ⟨ρ,δ,h,x,h1,R,S,e1,fun v H1 ⟨ρ1,T1,S1,r1⟩=>⟨hT S1 r1 c,ρ1,δ,h1,ds,h2,R.mono T1,S1,e3,fun vs ρ2 H2 T2 S2 r2=>⟨ρ2,h2,x,ds,d,h',S2,r1.mono T2,r2,e4,fun w H3 p=>k w H3 (p.step (T1.trans T2))⟩⟩⟩
 ·rw [if_neg c] at e2;cases e2
theorem tY {K:PySem.W.Frag} {ρ:Ad} {H:Hp} {h:MH} {n:Nat} {xs:List D} {v:V} (S:Sim K ρ h H) (r:Rep K ρ H v (.ob n)) (q:h[n]?=some (.lst xs)):∃a vs,v=.ref a∧ρ.ob[n]?=some a∧H a=some (.lst vs)∧RepL K ρ H vs xs:=by
 cases r with
 | ob hn=>obtain ⟨vs,e,l⟩:=S.at_ n _ _ hn q;exact ⟨_,vs,rfl,hn,e,l⟩
theorem g5:MtR X "list.append" (rM X.K cv):=by
 intro pins s σ H x xs v us Q I rx rs hh
 obtain ⟨ρ,h,d,ds,z,h',S,rd,l,ee,k⟩:=hh
 cases d <;> first | (cases ee;done) | skip
 rename_i n
 match ds,l,ee with
 | [],_,ee=>cases ee
 | _::_::_,_,ee=>cases ee
 | [y],l,ee=>
  unfold cv at ee
  dsimp only at ee
  cases q:h[n]? with
  | none=>rw [q] at ee;cases ee
  | some w=>
   rw [q] at ee
   cases w with
   | dct _=>cases ee
   | lst ys=>
    dsimp only at ee
    by_cases c:ys.length < sizeLine
    ·rw [if_pos c] at ee;cases ee
     obtain ⟨a,vs,rfl,hn,e1,l1⟩:=tY S rd q
     obtain ⟨u,rfl,ru⟩:=rep1 l
     have T:Stp ρ H ρ (upd H a (.lst (vs++[u]))):=Stp.wrote S (List.mem_of_getElem? hn)
     exact kQ pins s σ H _ _ v us Q I rx rs ⟨a,vs,u,rfl,rfl,e1,by rw [l1.length];exact c,k _ _ ⟨ρ,T,S.wrote hn ⟨_,ar,(l1.snoc ru).mono T.toCh⟩,.non⟩⟩
    ·rw [if_neg c] at ee;cases ee
theorem rA:MtR X "list.extend" (rM X.K ft):=by
 intro pins s σ H x xs v us Q I rx rs hh
 obtain ⟨ρ,h,d,ds,z,h',S,rd,l,ee,k⟩:=hh
 cases d <;> first | (cases ee;done) | skip
 rename_i n
 match ds,l,ee with
 | [],_,ee=>cases ee
 | _::_::_,_,ee=>cases ee
 | [y],l,ee=>
  unfold ft at ee
  dsimp only at ee
  cases q:h[n]? with
  | none=>rw [q] at ee;cases ee
  | some w=>
   rw [q] at ee
   cases w with
   | dct _=>cases ee
   | lst ys=>
    dsimp only at ee
    obtain ⟨zs,e2,e3⟩:=bnd ee
    by_cases c:ys.length+zs.length≤sizeLine
    ·rw [if_pos c] at e3;cases e3
     obtain ⟨a,vs,rfl,hn,e1,l1⟩:=tY S rd q
     obtain ⟨u,rfl,ru⟩:=rep1 l
     obtain ⟨b,ws,rfl,eb,l2⟩:=dU S ru e2
     have T:Stp ρ H ρ (upd H a (.lst (vs++ws))):=Stp.wrote S (List.mem_of_getElem? hn)
     exact rq pins s σ H _ _ v us Q I rx rs ⟨a,b,vs,ws,rfl,rfl,e1,eb,by rw [l1.length,l2.length];exact c,k _ _ ⟨ρ,T,S.wrote hn ⟨_,ar,(l1.append l2).mono T.toCh⟩,.non⟩⟩
    ·rw [if_neg c] at e3;cases e3
end
end Sm
namespace Sb
open PySem L2 PySem.Spec PyProof.Rows
open Builtin.SmallTypes (nextOf ownedTupleIsFree ownedTupleHandOut)
def kn:Bool→String
 | true=>"list_iterator"
 | false=>"tuple_iterator"
def At (b:Bool) (h:Heap) (j l:Addr) (i:Nat):Prop:=∃o,h.get? j=some o∧o.cls=.type (kn b)∧o.data=.fields #[.ref l,.int i 0]
def Of (b:Bool) (h:Heap) (l:Addr) (items:Array Value):Prop:=match b with
 | true=>h.IsList l items
 | false=>h.IsTuple l items
variable {P:Program} {w:World} {A:Around} {E:Value→Shared→Prop} {s:Shared} {b c:Bool}
theorem At.up {h h':Heap} {j l:Addr} {i:Nat} (x:At b h j l i) (k:∀o,h.get? j=some o→h'.get? j=some o):At b h' j l i:=let ⟨o,e,r⟩:=x;⟨o,k o e,r⟩
theorem At.lt {h:Heap} {j l:Addr} {i:Nat} (x:At b h j l i):j < h.objs.size:=let ⟨_,e,_⟩:=x;Heap.lt_size e
theorem Ay {j l:Addr} {i:Nat} {items:Array Value} {x:Value} {Q:Value→Shared→Prop} (hj:At b s.heap j l i) (hl:Of b s.heap l items) (hx:items[i]?=some x)
  (k:∀h',At b h' j l (i+1)→Heap.SameBut j s.heap h'→Q x {s with heap:=h'}):wpAny (model P w) A (nextOf (.ref j)) Q E s:=by
 cases b with
 | true=>exact wpAny_nextOf_list_item (show s.heap.IsListIter j l i from hj) (show s.heap.IsList l items from hl) hx k
 | false=>
  have hj':s.heap.IsTupleIter j l i:=hj
  obtain ⟨o,eo,ec,ed⟩:=hj'
  obtain ⟨ol,el,_,nl,edl⟩:=(show s.heap.IsTuple l items from hl)
  unfold nextOf
  refine wpAny_bind (wpAny_callSpecial?_slot (name:=Str.ofString "__next__") (show s.TypeIs (.ref j) "tuple_iterator" from ⟨o,eo,ec⟩) F.slot_tuple_iterator_next
   (wpAny_call_entry F.slot_tuple_iterator_next (show s.TypeIs (.ref j) "tuple_iterator" from ⟨o,eo,ec⟩) F.entry_tuple_iterator_next ?_ (F.args_tuple_iterator_next_1 _)))
  show wpAny _ _ (field (.ref j) 0 >>=_) _ _ s
  refine wpAny_bind (wpAny_field eo ed (x:=.ref l) rfl ?_)
  show wpAny _ _ (if (Value.ref l==Value.none)=true then _ else _) _ _ s
  rw [if_neg (show ¬((Value.ref l==Value.none)=true) by exact Bool.false_ne_true)]
  show wpAny _ _ (field (.ref j) 1 >>=_) _ _ s
  refine wpAny_bind (wpAny_field eo ed (x:=.int i 0) rfl ?_)
  show wpAny _ _ (seqItems? (.ref l) >>=_) _ _ s
  refine wpAny_bind (wpAny_seqItems el edl ?_)
  simp only [Int.toNat_natCast,hx]
  refine wpAny_bind (wpAny_setField eo ed (by simp) (wpAny_pure ⟨x,rfl,wpAny_pure (k _ ?_ (Heap.SameBut.update ..))⟩))
  exact ⟨_,Heap.get?_update_self _ eo (Obj.isFreed_of_fields (Obj.data_mapFields ed _)),(Obj.cls_mapFields ..).trans ec,by rw [Obj.data_mapFields ed];simp [rawInt]⟩
theorem Az {j l:Addr} {i:Nat} {items:Array Value} {Q:Value→Shared→Prop} (hh:A.handled=none) (hj:At b s.heap j l i) (hl:Of b s.heap l items) (hx:items[i]?=none)
  (k:∀h' e,Heap.ExtBut j s.heap h'→(∃o,h'.get? e=some o∧o.cls=.type "StopIteration")→E (.ref e) {s with heap:=h'}):wpAny (model P w) A (nextOf (.ref j)) Q E s:=by
 cases b with
 | true=>exact wpAny_nextOf_list_end hh (show s.heap.IsListIter j l i from hj) (show s.heap.IsList l items from hl) hx k
 | false=>
  have hj':s.heap.IsTupleIter j l i:=hj
  obtain ⟨o,eo,ec,ed⟩:=hj'
  obtain ⟨ol,el,_,nl,edl⟩:=(show s.heap.IsTuple l items from hl)
  unfold nextOf
  refine wpAny_bind (wpAny_callSpecial?_slot (name:=Str.ofString "__next__") (show s.TypeIs (.ref j) "tuple_iterator" from ⟨o,eo,ec⟩) F.slot_tuple_iterator_next
   (wpAny_call_entry F.slot_tuple_iterator_next (show s.TypeIs (.ref j) "tuple_iterator" from ⟨o,eo,ec⟩) F.entry_tuple_iterator_next ?_ (F.args_tuple_iterator_next_1 _)))
  show wpAny _ _ (field (.ref j) 0 >>=_) _ _ s
  refine wpAny_bind (wpAny_field eo ed (x:=.ref l) rfl ?_)
  show wpAny _ _ (if (Value.ref l==Value.none)=true then _ else _) _ _ s
  rw [if_neg (show ¬((Value.ref l==Value.none)=true) by exact Bool.false_ne_true)]
  show wpAny _ _ (field (.ref j) 1 >>=_) _ _ s
  refine wpAny_bind (wpAny_field eo ed (x:=.int i 0) rfl ?_)
  show wpAny _ _ (seqItems? (.ref l) >>=_) _ _ s
  refine wpAny_bind (wpAny_seqItems el edl ?_)
  simp only [Int.toNat_natCast,hx]
  refine wpAny_bind (wpAny_rule (wpAny_bind (wpAny_setField eo ed (by simp) ?_)))
  show wpAny _ _ (newExc (.type "StopIteration") [] >>=_) _ _ _
  refine wpAny_bind ?_
  simp only [newExc,newTuple];refine wpAny_bind (wpAny_newObj_type ?_ (by size_fits))
  refine wpAny_bind (m:=firstArgMember _ _) (wpAny_of_eq (a:=Value.none) (by first | (simp only [firstArgMember];rfl) | rfl) ?_)
  refine wpAny_newObj_type ?_ (by size_fits)
  simp only [raiseNew]
  refine wpAny_bind (wpAny_handled ?_)
  first | rw [hh] | rw [show A.in1.handled=none from hh]
  refine wpAny_bind (wpAny_pure (wpAny_throw (k _ _ (((Heap.SameBut.update ..).extBut.push _).push _) ⟨_,Heap.get?_push_size _ rfl,rfl⟩)))
end Sb
namespace Sb
open PySem L2 PySem.Spec PyProof.Rows
open Builtin.SmallTypes (nextOf ownedTupleIsFree ownedTupleHandOut)
variable {P:Program} {w:World} {A:Around} {E:Value→Shared→Prop} {s:Shared} {b c:Bool}
theorem rV {e j l:Addr} {i:Nat} {items:Array Value} {x old:Value} {Q:Option Value→Shared→Prop} (hE:IsEnum s.heap e j i old) (hj:At b s.heap j l i) (hl:Of b s.heap l items) (hx:items[i]?=some x) (ne:e≠j)
  (k:∀h',IsEnumOut h' e j ((i:Int)+1) x s.heap.objs.size→At b h' j l (i+1)→h'.get? s.heap.objs.size=some {cls:=.type "tuple",data:=.seq #[.int i s.toks,x]}→h'.objs.size=s.heap.objs.size+1→
   (∀a o,a≠e→a≠j→s.heap.get? a=some o→h'.get? a=some o)→Q (some (.ref s.heap.objs.size)) {s with heap:=h',toks:=s.toks+1}):wpAny (model P w) A (pyNext (.ref e)) Q E s:=by
 have hT:s.TypeIs (.ref e) "enumerate":=⟨_,hE,rfl⟩
 unfold pyNext
 refine wpAny_bind (wpAny_attempt (wpAny_callSpecial?_slot (name:=Str.ofString "__next__") hT F.slot_enumerate_next (wpAny_call_entry F.slot_enumerate_next hT F.entry_enumerate_next ?_ (F.args_enumerate_next_1 _))))
 obtain ⟨hp,g,d,tk,os⟩:=s
 show wpAny _ _ (field (.ref e) 2 >>=_) _ _ _
 refine wpAny_bind (wpAny_field hE rfl (x:=.ref j) rfl (wpAny_bind (Ay hj hl hx fun k₁ j₁ t₁=>?_)))
 replace t₁:Heap.SameBut j hp k₁:=t₁
 have E₁:IsEnum k₁ e j i old:=(t₁.2 e ne).trans hE
 show wpAny _ _ (field (.ref e) 3 >>=_) _ _ ⟨k₁,g,d,tk,os⟩
 refine wpAny_bind (wpAny_field E₁ rfl (x:=rawInt i) rfl ?_)
 show wpAny _ _ (field (.ref e) 4 >>=_) _ _ ⟨k₁,g,d,tk,os⟩
 refine wpAny_bind (wpAny_field E₁ rfl (x:=.none) rfl ?_)
 show wpAny _ _ (mkInt i >>=_) _ _ ⟨k₁,g,d,tk,os⟩
 refine wpAny_bind (wpAny_mkInt ?_)
 show wpAny _ _ (setField (.ref e) 3 (rawInt ((i:Int)+1)) >>=_) _ _ ⟨k₁,g,d,tk+1,os⟩
 refine wpAny_bind (wpAny_setField_rec E₁ (by simp) fun k₂ E₂ t₂=>?_)
 replace t₂:Heap.SameBut e k₁ k₂:=t₂
 replace E₂:IsEnum k₂ e j ((i:Int)+1) old:=E₂
 show wpAny _ _ (setField (.ref e) 4 .none >>=_) _ _ ⟨k₂,g,d,tk+1,os⟩
 refine wpAny_bind (wpAny_setField_rec E₂ (by simp) fun k₃ E₃ t₃=>?_)
 replace t₃:Heap.SameBut e k₂ k₃:=t₃
 replace E₃:IsEnum k₃ e j ((i:Int)+1) old:=E₃
 show wpAny _ _ (newTuple [.int i tk,x] >>=_) _ _ ⟨k₃,g,d,tk+1,os⟩
 refine wpAny_bind (wpAny_newTuple ?_)
 have E₄:IsEnum (k₃.push {cls:=.type "tuple",data:=.seq #[.int i tk,x]}) e j ((i:Int)+1) old:=Heap.get?_push_of_some _ E₃
 generalize eq₄:k₃.push {cls:=.type "tuple",data:=.seq #[.int i tk,x]}=k₄ at E₄
 have sz:k₃.objs.size=hp.objs.size:=by rw [t₃.1,t₂.1,t₁.1]
 have lte:e < hp.objs.size:=Heap.lt_size hE
 have tp:k₄.get? hp.objs.size=some {cls:=.type "tuple",data:=.seq #[.int i tk,x]}:=by rw [←eq₄,←sz];exact Heap.get?_push_size _ rfl
 have sz₄:k₄.objs.size=hp.objs.size+1:=by rw [←eq₄,Heap.size_push,sz]
 have up₄:∀a o,a≠e→a≠j→hp.get? a=some o→k₄.get? a=some o:=fun a o z1 z2 q=>by
  rw [←eq₄];exact Heap.get?_push_of_some _ (t₃.extBut a o z1 (t₂.extBut a o z1 (t₁.extBut a o z2 q)))
 have j₄:At b k₄ j l (i+1):=j₁.up fun o q=>by rw [←eq₄];exact Heap.get?_push_of_some _ (t₃.extBut j o (Ne.symm ne) (t₂.extBut j o (Ne.symm ne) q))
 show wpAny _ _ (ownedTupleIsFree (.ref e) >>=_) _ _ ⟨k₄,g,d,tk+1,os⟩
 rw [sz]
 clear eq₄ E₃ t₃ E₂ t₂ E₁ t₁ j₁ sz k₃ k₂ k₁
 refine wpAny_bind ?_
 unfold ownedTupleIsFree
 refine wpAny_bind (wpAny_field E₄ rfl (x:=.none) rfl (wpAny_pure ?_))
 simp only [if_true]
 refine wpAny_bind (wpAny_rule (wpAny_bind (wpAny_field E₄ rfl (x:=old) rfl (wpAny_bind (wpAny_setField_rec E₄ (by simp) fun k₅ E₅ t₅=>?_)))))
 replace t₅:Heap.SameBut e k₄ k₅:=t₅
 replace E₅:IsEnum k₅ e j ((i:Int)+1) x:=E₅
 show wpAny _ _ (ownedTupleHandOut (.ref e) (.ref hp.objs.size) >>=_) _ _ ⟨k₅,g,d,tk+1,os⟩
 refine wpAny_bind ?_
 unfold ownedTupleHandOut
 refine wpAny_bind (wpAny_setField_rec E₅ (by simp) fun k₆ E₆ t₆=>?_)
 replace t₆:Heap.SameBut e k₅ k₆:=t₆
 replace E₆:IsEnumOut k₆ e j ((i:Int)+1) x hp.objs.size:=E₆
 refine wpAny_setField_rec E₆ (by simp) fun k₇ E₇ t₇=>?_
 replace t₇:Heap.SameBut e k₆ k₇:=t₇
 replace E₇:IsEnumOut k₇ e j ((i:Int)+1) x hp.objs.size:=E₇
 have up:∀a o,a≠e→k₄.get? a=some o→k₇.get? a=some o:=fun a o z q=>t₇.extBut a o z (t₆.extBut a o z (t₅.extBut a o z q))
 refine wpAny_bind (wpAny_letGo (wpAny_pure ⟨_,rfl,wpAny_pure (k k₇ E₇ (j₄.up fun o q=>up j o (Ne.symm ne) q) (up _ _ (Nat.ne_of_gt lte) tp) ?_ fun a o z1 z2 q=>up a o z1 (up₄ a o z1 z2 q))⟩))
 rw [t₇.1,t₆.1,t₅.1,sz₄]
theorem uz {e j l:Addr} {i:Nat} {items:Array Value} {old:Value} {Q:Option Value→Shared→Prop} (hh:A.handled=none) (hE:IsEnum s.heap e j i old) (hj:At b s.heap j l i) (hl:Of b s.heap l items) (hx:items[i]?=none)
  (k:∀h',Heap.ExtBut j s.heap h'→Q none {s with heap:=h'}):wpAny (model P w) A (pyNext (.ref e)) Q E s:=by
 have hT:s.TypeIs (.ref e) "enumerate":=⟨_,hE,rfl⟩
 unfold pyNext
 refine wpAny_bind (wpAny_attempt (wpAny_callSpecial?_slot (name:=Str.ofString "__next__") hT F.slot_enumerate_next (wpAny_call_entry F.slot_enumerate_next hT F.entry_enumerate_next ?_ (F.args_enumerate_next_1 _))))
 show wpAny _ _ (field (.ref e) 2 >>=_) _ _ _
 refine wpAny_bind (wpAny_field hE rfl (x:=.ref j) rfl (wpAny_bind (Az hh hj hl hx fun h' y he' ⟨o,ho,hc⟩=>?_)))
 exact wpAny_bind (wpAny_isInstance (T:="StopIteration") (b:=true) ⟨o,ho,hc⟩ isSubtype_stop (wpAny_pure (k _ he')))
theorem rT {l:Addr} {items:Array Value} {Q:Value→Shared→Prop} (x:Of b s.heap l items)
  (k:∀h',IsEnum h' (s.heap.objs.size+1) s.heap.objs.size 0 .none→At b h' s.heap.objs.size l 0→h'.objs.size=s.heap.objs.size+2→(∀a o,s.heap.get? a=some o→h'.get? a=some o)→Q (.ref (s.heap.objs.size+1)) {s with heap:=h'}):
  wpAny (model P w) A (call (.type "enumerate") [.ref l]) Q E s:=by
 cases b with
 | true=>exact call_enumerate_list (show s.heap.IsList l items from x) k
 | false=>
  have mt:PySem.Meets (Builtin.«enumerate.__new__» ⟨[.type "enumerate",.ref l],[]⟩) (fun _ R s=>s.heap.IsTuple l items∧
    R (.ok (.ret (.ref (s.heap.push {cls:=.type "tuple_iterator",data:=.fields #[.ref l,.int 0 0]}).objs.size)))
     {s with heap:=(s.heap.push {cls:=.type "tuple_iterator",data:=.fields #[.ref l,.int 0 0]}).push {cls:=.type "enumerate",data:=.fields #[.none,.bool false,.ref s.heap.objs.size,rawInt 0,.none,.none]}}):=
   .of_wp fun prog w A R s h=>by
    obtain ⟨hp,g,d,tk,os⟩:=s;obtain ⟨hl,h⟩:=h
    have sub:=sub_enumerate
    have hL:Heap.IsTuple (Shared.heap ⟨hp,g,d,tk,os⟩) l items:=hl
    obtain ⟨o0,e0,c0,n0,d0⟩:=id hL
    wp_walk
    refine wpAny_stack_any fun st=>wpAny_pure ?_
    split
    ·rename_i c _ _ _ _ _
     cases (c==Value.type "enumerate")
     ·wp_walk using wpAny_pyIter_tuple hL
      exact ⟨_,rfl,h⟩
     ·wp_walk using wpAny_pyIter_tuple hL
      exact ⟨_,rfl,h⟩
    ·wp_walk using wpAny_pyIter_tuple hL
     exact ⟨_,rfl,h⟩
  refine callType_new F.called_enumerate (by decide) (F.typeCall_enumerate_1 _) (F.newCall_enumerate_1 _) (fun obj=>F.args_object_init_2 obj _) F.entry_enumerate_new mt ⟨x,?_⟩
  have z1:(s.heap.push {cls:=.type "tuple_iterator",data:=.fields #[.ref l,.int 0 0]}).objs.size=s.heap.objs.size+1:=Heap.size_push ..
  show _∧_
  rw [z1]
  have eE:IsEnum ((s.heap.push {cls:=.type "tuple_iterator",data:=.fields #[.ref l,.int 0 0]}).push
    {cls:=.type "enumerate",data:=.fields #[.none,.bool false,.ref s.heap.objs.size,rawInt 0,.none,.none]}) (s.heap.objs.size+1) s.heap.objs.size 0 .none:=by
   have q:=Heap.get?_push_size (s.heap.push {cls:=.type "tuple_iterator",data:=.fields #[.ref l,.int 0 0]}) (o:={cls:=.type "enumerate",data:=.fields #[.none,.bool false,.ref s.heap.objs.size,rawInt 0,.none,.none]}) rfl
   rw [z1] at q;exact q
  refine ⟨⟨_,eE,rfl⟩,k _ eE ⟨_,Heap.get?_push_of_some _ (Heap.get?_push_size _ rfl),rfl,rfl⟩ (by rw [Heap.size_push,z1]) fun a o q=>Heap.get?_push_of_some _ (Heap.get?_push_of_some _ q)⟩
end Sb
namespace Sb
open PySem L2 PySem.Spec PyProof.Rows
open Builtin.SmallTypes (nextOf ownedTupleIsFree ownedTupleHandOut)
variable {P:Program} {w:World} {A:Around} {E:Value→Shared→Prop} {s:Shared} {b c:Bool}
end Sb
namespace Sb
open PySem L2 PySem.Spec PyProof.Rows
section
variable {X:Cx} {pins:List (Addr×Obj)} {σ:L2.St} {H:Hp} {s:Shared} {h':Heap} {fp:List Addr}
theorem pM {t':Nat} (I:L2.Inv X pins σ H s) (k:∀b o,b∉fp→s.heap.get? b=some o→h'.get? b=some o) (hf:∀b∈fp,dm X pins H b):L2.Inv X pins σ H {s with heap:=h',toks:=t'}:=by
 have nit:∀b u,H b=some u→b∉fp:=fun b u e z=>by rw [(hf b z).1] at e;cases e
 have nL:X.env.locals∉fp:=fun z=>(hf _ z).2.1 rfl
 refine I.step (g':=s.gens) (d':=s.drawn) (ch:=fp) (fun b hb=>?_) (fun b o _ _ hc e _=>k b o hc e) (fun b o _ _ hc e _=>⟨o.slots,k b o hc e⟩) (fun _ _ _ _ n=>n)
  (fun b o hc e=>⟨o,k b o hc e⟩) (fun _ _ e=>e) (fun _ _ _ e=>e) (fun b ps e=>⟨#[],by rw [e];simp⟩) (fun m hm=>?_) (fun b u e=>?_) I.bare
 ·obtain ⟨f0,f1,f2,f3,f4,f5⟩:=hf b hb
  exact ⟨f3,f1,f4,f5⟩
 ·obtain ⟨o,es,ep,ho,r⟩:=hm
  exact ⟨o,es,ep,k _ o nL ho,r⟩
 ·refine (I.hok b u e).iD (fun c v hc q=>k c v ?_ q) (fun _ q=>q) fun _ _ q=>q
  rcases hc with z | z
  ·rw [z];exact nit b u e
  ·exact nit c _ z
theorem u5 {t':Nat} {vs:List V} {us:List Value} {n:Nat} (I:L2.Inv X pins σ H s) (k:∀b o,b∉fp→s.heap.get? b=some o→h'.get? b=some o) (hf:∀b∈fp,dm X pins H b) (hlt:∀b∈fp,b < s.heap.objs.size)
  (ht:h'.get? s.heap.objs.size=some {cls:=.type "tuple",data:=.seq us.toArray n}) (r:Vals vs us) (hz:vs.length≤sizeLine):L2.Inv X pins σ (upd H s.heap.objs.size (.tup vs)) {s with heap:=h',toks:=t'}:=by
 have nit:∀b u,H b=some u→b∉fp:=fun b u e z=>by rw [(hf b z).1] at e;cases e
 have nL:X.env.locals∉fp:=fun z=>(hf _ z).2.1 rfl
 have hp:H s.heap.objs.size=none:=I.hok.fresh (Nat.le_refl _)
 have np:∀b o,s.heap.get? b=some o→b≠s.heap.objs.size:=fun b o e=>Nat.ne_of_lt (Heap.lt_size e)
 have nH:∀b u,H b=some u→b≠s.heap.objs.size:=fun b u e=>ax e hp
 refine I.step (g':=s.gens) (d':=s.drawn) (ch:=fp) (fun b hb=>?_) (fun b o _ _ hc e _=>k b o hc e) (fun b o _ _ hc e _=>⟨o.slots,k b o hc e⟩) (fun b o _ e n=>by rw [ai (np b o e)];exact n)
  (fun b o hc e=>⟨o,k b o hc e⟩) (fun b _ e=>by rw [ai (nH b _ e)];exact e) (fun b _ _ e=>by rw [ai (nH b _ e)];exact e) (fun b ps e=>⟨#[],by rw [ai (nH b _ e),e];simp⟩) (fun m hm=>?_) (fun b u e=>?_) I.bare
 ·obtain ⟨f0,f1,f2,f3,f4,f5⟩:=hf b hb
  exact ⟨f3,f1,f4,f5⟩
 ·obtain ⟨o,es,ep,ho,q⟩:=hm
  exact ⟨o,es,ep,k _ o nL ho,q⟩
 ·by_cases z:b=s.heap.objs.size
  ·subst z
   rw [ar] at e
   cases e
   exact ⟨hz,us,r,⟨_,ht,rfl,⟨n,rfl⟩,rfl⟩⟩
  ·rw [ai z] at e
   refine (I.hok b u e).iD (fun c v hc q=>k c v ?_ q) (fun c q=>?_) fun c u q=>?_
   ·rcases hc with y | y
    ·rw [y];exact nit b u e
    ·exact nit c _ y
   ·rw [ai (nH _ _ q)];exact q
   ·rw [ai (nH _ _ q)];exact q
end
def SqB (b:Bool) (K:PySem.W.Frag) (H:Hp) (l:Addr) (xs:List V):Prop:=match b with
 | true=>SqL K H l xs
 | false=>SqT K H l xs
theorem SqB.of {X:Cx} {pins:List (Addr×Obj)} {σ:L2.St} {H:Hp} {s:Shared} {b:Bool} {l:Addr} {xs:List V} (I:L2.Inv X pins σ H s) (q:SqB b X.K H l xs):∃its:List Value,Vals xs its∧Of b s.heap l its.toArray:=by
 cases b with
 | true=>obtain ⟨its,r,p,_⟩:=I.list (show SqL X.K H l xs from q);exact ⟨its,r,p.isList⟩
 | false=>obtain ⟨its,r,p,_⟩:=I.tuple (show SqT X.K H l xs from q);exact ⟨its,r,p⟩
theorem SqB.inj {X:Cx} {pins:List (Addr×Obj)} {σ:L2.St} {H:Hp} {s:Shared} {b:Bool} {l:Addr} {xs ys:List V} (I:L2.Inv X pins σ H s) (q:SqB b X.K H l xs) (q':SqB b X.K H l ys):xs=ys:=by
 cases b with
 | true=>exact I.nU q q'
 | false=>exact I.kE q q'
def Ite (b:Bool) (K:PySem.W.Frag) (l:Addr):It:=
 ⟨fun i H=>∃xs x,SqB b K H l xs∧xs[i]?=some x,fun i H x H'=>∃p y,H p=none∧x=.ref p∧H'=upd H p (.tup [.int (i:Int),y])∧∀xs,SqB b K H l xs→xs[i]?=some y,fun i H=>∃xs,SqB b K H l xs∧xs.length≤i⟩
theorem qI {P:Program} {w:World} {K:PySem.W.Frag} {es:List Expr} {k0:Nat} {pos:Pos} (b:Bool) (l e j:Addr) (ne:e≠j):Turn P w K (.Tuple es k0 pos) (Ite b K l) [e,j] e (fun i h=>(∃old,IsEnum h e j i old)∧At b h j l i) where
 mem:=by simp
 obj:=fun i h st a ha=>by
  obtain ⟨⟨old,h1⟩,o,h2,_,d2⟩:=st
  simp at ha
  rcases ha with rfl | rfl
  ·exact ⟨_,h1,fun v z=>by cases z⟩
  ·exact ⟨o,h2,fun v z=>by rw [d2] at z;cases z⟩
 keep:=fun i h h' ⟨⟨old,h1⟩,h2⟩ k=>⟨⟨old,k e (by simp) _ h1⟩,h2.up fun o q=>k j (by simp) o q⟩
 item:=by
  intro X hP hw hK hc i pins s σ H E I hf st hg
  subst hP hw hK
  obtain ⟨xs,x,hq,hx⟩:=hg
  obtain ⟨⟨old,h1⟩,h2⟩:=st
  obtain ⟨its,rv,hO⟩:=hq.of I
  obtain ⟨u,hu,ru⟩:=rv.get hx
  have hlt:∀a∈[e,j],a < s.heap.objs.size:=fun a ha=>by
   simp at ha
   rcases ha with rfl | rfl
   ·exact Heap.lt_size h1
   ·exact h2.lt
  refine rV h1 h2 hO (x:=u) (by simpa using hu) ne fun h' a1 a2 a3 a4 a5=>⟨_,rfl,wpAny_letOwnedTupleGo_enum a1 fun h'' b1 b2=>?_⟩
  have hp:H s.heap.objs.size=none:=I.hok.fresh (Nat.le_refl _)
  have I1:=u5 (t':=s.toks+1) (vs:=[.int (i:Int),x]) (us:=[.int i s.toks,u]) (n:=0) I (fun a o ha q=>a5 a o (fun z=>ha (by simp [z])) (fun z=>ha (by simp [z])) q) hf hlt a3 (.cons ⟨_,rfl⟩ (.cons ru .nil)) (show 2≤sizeLine by decide)
  have hf1:∀a∈[e,j],dm X pins (upd H s.heap.objs.size (.tup [.int (i:Int),x])) a:=fun a ha=>by
   obtain ⟨f0,f⟩:=hf a ha
   exact ⟨by rw [ai (Nat.ne_of_lt (hlt a ha))];exact f0,f⟩
  have I2:=pM (t':=s.toks+1) I1 (h':=h'') (fun a o ha q=>b2.extBut a o (fun z=>ha (by simp [z])) q) hf1
  exact ⟨.ref s.heap.objs.size,_,I2,rfl,⟨_,x,hp,rfl,rfl,fun ys hy=>by rw [hy.inj I hq];exact hx⟩,⟨⟨_,by simpa using b1⟩,a2.up fun o q=>b2.extBut j o (Ne.symm ne) q⟩,fun a ha=>(hf1 a ha).1⟩
 done:=by
  intro X hP hw hK hc i pins s σ H E I hf st hg
  subst hP hw hK
  obtain ⟨xs,hq,hx⟩:=hg
  obtain ⟨⟨old,h1⟩,h2⟩:=st
  obtain ⟨its,rv,hO⟩:=hq.of I
  have hl:=rv.length
  exact uz (I.ok.hd hc) h1 h2 hO (by simp;omega) fun h' eb=>⟨rfl,pM (t':=s.toks) I (fun a o ha q=>eb a o (fun z=>ha (by simp [z])) q) hf⟩
 self:=fun A i s Q E ⟨⟨old,h1⟩,_⟩ q=>by
  have hT:s.TypeIs (.ref e) "enumerate":=⟨_,h1,rfl⟩
  refine wpAny_pyIter_slot hT F.slot_enumerate_iter (wpAny_call_entry F.slot_enumerate_iter hT F.entry_enumerate_iter ?_ (F.args_enumerate_iter_1 _))
  show wpAny _ _ (ret (.ref e)) _ _ s
  exact wpAny_pure ⟨_,rfl,"enumerate",_,hT,F.slot_enumerate_next.lookup,q⟩
end Sb
namespace Sb
open PySem L2 PySem.Spec PyProof.Rows
theorem se:bootBuiltins "enumerate"=some (.type "enumerate"):=by decide+kernel
section
variable {X:Cx} {es:List Expr} {k0:Nat} {tpos:Pos}
theorem vW {a:Expr} {ta:TA} {p pos:Pos} (hg:Gl X "enumerate") (hm:X.mg "enumerate"=none) (ha:PA X [a] ta) (hs:starEach [a] X.env=[(false,eval a X.env)]:=by kernel_rfl):
  PI X (.Tuple es k0 tpos) (.Call (.Name "enumerate" p) [a] [] pos) (fun σ H R=>ta σ H fun vs H1=>∃l b,vs=[.ref l]∧(∃xs,SqB b X.K H1 l xs)∧R (Ite b X.K l) H1):=by
 intro pins s σ H R I h
 refine Call_ (fU I hg hm se (PyProof.Rows.callWith_type1 (thn (ha pos pins s σ H _ I h) fun us s1 ⟨vs,H1,I1,r1,q1⟩=>?_) hs rfl))
 obtain ⟨l,b,e,⟨xs,hq⟩,q⟩:=q1
 subst e
 obtain ⟨u,rfl,ru⟩:=Vals.one r1
 obtain rfl:u=Value.ref l:=ru
 obtain ⟨its,rv,hO⟩:=hq.of I1
 refine rT hO fun h' a1 a2 a3 a4=>?_
 have I2:L2.Inv X pins σ H1 {s1 with heap:=h'}:=I1.kept (t':=s1.toks) a4
 have hf:∀c∈[s1.heap.objs.size+1,s1.heap.objs.size],dm X pins H1 c:=fun c hc=>by
  simp at hc
  rcases hc with rfl | rfl
  ·exact I1.kd (Nat.le_succ _) (I1.hok.fresh (Nat.le_succ _))
  ·exact I1.kd (Nat.le_refl _) (I1.hok.fresh (Nat.le_refl _))
 have T:=qI (P:=X.prog) (w:=X.w) (K:=X.K) (es:=es) (k0:=k0) (pos:=tpos) b l (s1.heap.objs.size+1) s1.heap.objs.size (Nat.succ_ne_self _)
 refine T.self X.A 0 {s1 with heap:=h'} _ X.xe ⟨⟨_,a1⟩,a2⟩ ?_
 exact ⟨_,[s1.heap.objs.size+1,s1.heap.objs.size],_,_,H1,rfl,I2,T,⟨⟨_,a1⟩,a2⟩,hf,q⟩
end
end Sb
namespace Sm
open PySem L2 PySem.Spec PyProof.Rows
def dE:Nat→List D→List D
 | _,[]=>[]
 | k,x::r=>.tup [.int (k:Int),x]::dE (k+1) r
theorem hY:∀(xs:List D) (k i:Nat),(dE k xs)[i]?=(xs[i]?).map fun x=>.tup [.int ((k+i:Nat):Int),x]
 | [],k,i=>by simp [dE]
 | x::r,k,0=>by simp [dE]
 | x::r,k,i+1=>by
  show (dE (k+1) r)[i]?=_
  rw [hY r (k+1) i]
  simp only [List.getElem?_cons_succ]
  congr 1
  funext y
  rw [show k+1+i=k+(i+1) by omega]
theorem gB:∀(xs:List D) (k:Nat),(dE k xs).length=xs.length
 | [],_=>rfl
 | _::r,k=>by simp [dE,gB r (k+1)]
theorem SeqAt.sqB {K:PySem.W.Frag} {H:Hp} {a:Addr} {vs:List V} {b:Bool} (q:SeqAt K H a vs b):Sb.SqB b K H a vs:=by
 cases q with
 | l q=>exact q
 | t q=>exact q
def uc (m:AM):IM:=fun δ h=>(m δ h).bind fun p=>match p.1 with
 | [d]=>(bR d p.2).map fun q=>(dE 0 q.1,q.2,p.2)
 | _=>none
section
variable {X:Cx} {es:List Expr} {k0:Nat} {tpos:Pos} {a b:Expr} {p pos:Pos} {m:AM}
theorem vd (hg:Gl X "enumerate") (hm:X.mg "enumerate"=none) (ha:SA X [a] m) (hl:iL m 1) (hs:starEach [a] X.env=[(false,eval a X.env)]:=by kernel_rfl):SI X (.Tuple es k0 tpos) (.Call (.Name "enumerate" p) [a] [] pos) (uc m):=
 (Sb.vW hg hm ha hs).imp fun σ H Q ⟨ρ,δ,h,xs,ws,h',R,S,e,k⟩=>by
  obtain ⟨⟨ds,h1⟩,e1,e2⟩:=bnd e
  refine ⟨ρ,δ,h,ds,h1,R,S,e1,fun vs ρ1 H1 T1 S1 r1=>?_⟩
  match ds,hl _ _ _ _ e1,e2,r1 with
  | [d],_,e2,r1=>
   obtain ⟨⟨ys,w⟩,e3,e4⟩:=mpd e2
   cases e4
   obtain ⟨v,rfl,rd⟩:=rep1 r1
   obtain ⟨a,rfl,⟨us,q,l⟩,st⟩:=gP S1 rd e3
   refine ⟨a,kc d,rfl,⟨us,q.sqB⟩,k _ ρ1 H1 T1 S1 ⟨fun ρ2 H2 h2 T2 S2 hc i=>?_⟩⟩
   obtain ⟨ws,l2,q2⟩:=st ρ2 H2 h2 T2 S2 hc
   refine ⟨fun hi=>⟨ws,q2.sqB,by rw [l2.length];rw [gB] at hi;exact hi⟩,fun x hx=>?_⟩
   rw [hY] at hx
   obtain ⟨y,ey,hx⟩:=mpd hx
   subst hx
   obtain ⟨v,ev,rv⟩:=l2.got ey
   refine ⟨⟨ws,v,q2.sqB,ev⟩,fun u H3 ⟨p,y',hp,hu,hH,hy⟩=>?_⟩
   subst hu;subst hH
   have hy':y'=v:=by have:=hy ws q2.sqB;rw [ev] at this;exact (Option.some.inj this).symm
   subst hy'
   refine ⟨Stp.laid S2 hp,S2.laid hp,.tup (.inl ⟨.inl ar,S2.fresh hp⟩) (.cons ?_ (.cons (rv.mono (Stp.laid S2 hp).toCh) .nil))⟩
   rw [Nat.zero_add]
   exact .int _
end
end Sm
namespace Sm
open PySem L2 PySem.Spec PyProof.Rows
def mE (ls:List (Key×D)):List (Key×D)→Option Bool
 | []=>some true
 | (k,v)::r=>match bc ls k with
  | none=>some false
  | some u=>(pyD v).bind fun a=>(pyD u).bind fun b=>if a.depth≤60∧b.depth≤60 then (mE ls r).map fun c=>PyData.eqv a b&&c else none
def uD (ks ls:List (Key×D)):Option Bool:=if ks.length=ls.length then mE ls ks else some false
def eqA (d e:D) (h:MH):Option Bool:=match bp d h,bp e h with
 | some ks,some ls=>uD ks ls
 | _,_=>eqD d e h
def wG (d e:D) (h:MH):Option (D×MH):=(eqA d e h).map fun c=>(.bl c,h)
def gz (d e:D) (h:MH):Option (D×MH):=(eqA d e h).map fun c=>(.bl (!c),h)
section
variable {X:Cx}
theorem qj {pins:List (Addr×Obj)} {σ:L2.St} {H:Hp} {s:Shared} {ρ:Ad} (hu:X.A.units+64 < cLine) (I:L2.Inv X pins σ H s) {vs:List (Key×V)} {ls:List (Key×D)} {kb:List (Key×Value)} (lb:RepK X.K ρ H vs ls) (rb:KV vs kb):
  ∀{us:List (Key×V)} {ks:List (Key×D)} {ka:List (Key×Value)} {c:Bool},RepK X.K ρ H us ks→KV us ka→mE ls ks=some c→PySem.W.KeqHits X.A.in1 s kb ka c
 | _,_,_,c,.nil,ra,e=>by
  cases ra
  cases e
  exact .nil
 | _,_,_,c,.cons (k:=k) (v:=v) (d:=d) r l,ra,e=>by
  cases ra with
  | cons ra rr=>
   rename_i p ka
   obtain ⟨k',y⟩:=p
   obtain ⟨ek,ry⟩:=ra
   dsimp only at ek ry
   subst ek
   simp only [mE] at e
   have rel:=rb.val k
   rcases lb.val k with ⟨h1,h2⟩ | ⟨d',v',h1,h2,r'⟩
   ·rw [h1] at e
    cases e
    rw [h2] at rel
    refine .miss ?_
    cases q:valueAt kb k with
    | none=>rfl
    | some _=>rw [q] at rel;exact rel.elim
   ·rw [h1] at e
    obtain ⟨a,e1,e⟩:=bnd e
    obtain ⟨b,e2,e⟩:=bnd e
    by_cases z:a.depth≤60∧b.depth≤60
    ·rw [if_pos z] at e
     obtain ⟨c',e3,e4⟩:=mpd e
     subst e4
     rw [h2] at rel
     cases q:valueAt kb k with
     | none=>rw [q] at rel;exact rel.elim
     | some y'=>
      rw [q] at rel
      obtain ⟨r1,c1⟩:=r.rds e1
      obtain ⟨r2,c2⟩:=r'.rds e2
      obtain ⟨as,ra1⟩:=r1.reads I ry
      obtain ⟨bs,ra2⟩:=r2.reads I rel
      refine .hit q (PySem.SeqAt.eqAt_reads a b _ s y y' as bs ra1 ra2 c1 c2 ?_) (qj hu I lb rb l rr e3)
      have:min a.depth b.depth≤a.depth:=Nat.min_le_left _ _
      show X.A.units+1+min a.depth b.depth < cLine
      omega
    ·rw [if_neg z] at e;cases e
theorem uy {pins:List (Addr×Obj)} {σ:L2.St} {H:Hp} {s:Shared} {ρ:Ad} {h:MH} {x y:V} {v u:Value} {d e:D} {c:Bool} (hu:X.A.units+64 < cLine) (I:L2.Inv X pins σ H s) (rx:L2.RelV x v) (ry:L2.RelV y u) (S:Sim X.K ρ h H) (rd:Rep X.K ρ H x d) (re:Rep X.K ρ H y e) (ee:eqA d e h=some c):
  (∀Q:Value→Shared→Prop,Q (.bool c) s→wpAny (model X.prog X.w) X.A (compareOp .Eq v u) Q X.xe s)∧∀Q:Value→Shared→Prop,Q (.bool (!c)) s→wpAny (model X.prog X.w) X.A (compareOp .NotEq v u) Q X.xe s:=by
 have data:eqD d e h=some c→(∀Q:Value→Shared→Prop,Q (.bool c) s→wpAny (model X.prog X.w) X.A (compareOp .Eq v u) Q X.xe s)∧∀Q:Value→Shared→Prop,Q (.bool (!c)) s→wpAny (model X.prog X.w) X.A (compareOp .NotEq v u) Q X.xe s:=by
  intro ee
  obtain ⟨a,e3,e4⟩:=bnd ee
  obtain ⟨b,e5,e6⟩:=bnd e4
  by_cases w:a.depth≤64∧b.depth≤64
  ·rw [if_pos w] at e6;cases e6
   obtain ⟨r1,c1⟩:=lY S rd e3
   obtain ⟨r2,c2⟩:=lY S re e5
   obtain ⟨as,ra⟩:=r1.reads I rx
   obtain ⟨bs,rb⟩:=r2.reads I ry
   exact ⟨fun Q q=>eq_dataH ra rb (fw c1 w.1) (fw c2 w.2) hu q,fun Q q=>ne_dataH ra rb (fw c1 w.1) (fw c2 w.2) hu q⟩
  ·rw [if_neg w] at e6;cases e6
 unfold eqA at ee
 cases q1:bp d h with
 | none=>rw [q1] at ee;exact data ee
 | some ks=>
  cases q2:bp e h with
  | none=>rw [q1,q2] at ee;exact data ee
  | some ls=>
   rw [q1,q2] at ee
   obtain ⟨a,us,rfl,ha,la⟩:=cA S rd q1
   obtain ⟨b,ws,rfl,hb,lb⟩:=cA S re q2
   obtain rfl:v=Value.ref a:=rx
   obtain rfl:u=Value.ref b:=ry
   obtain ⟨_,na,ka,ra,da⟩:=fc I.hok ha
   obtain ⟨_,nb,kb,rb,db⟩:=fc I.hok hb
   have l1:ka.length=ks.length:=by rw [←la.length];exact (Paired.length ra).symm
   have l2:kb.length=ls.length:=by rw [←lb.length];exact (Paired.length rb).symm
   dsimp only [uD] at ee
   by_cases z:ks.length=ls.length
   ·rw [if_pos z] at ee
    have hits:=qj hu I lb rb la ra ee
    have ez:(ka.length==kb.length&&c)=c:=by rw [l1,l2,z,beq_self_eq_true,Bool.true_and]
    exact ⟨fun Q q=>PySem.W.keq_eq na nb da db (by omega) (fun _=>hits) (by rw [ez];exact q),fun Q q=>PySem.W.keq_ne na nb da db (by omega) (fun _=>hits) (by rw [ez];exact q)⟩
   ·rw [if_neg z] at ee
    cases ee
    have ez:(ka.length==kb.length&&false)=false:=Bool.and_false _
    have nh:ka.length=kb.length→PySem.W.KeqHits X.A.in1 s kb ka false:=fun q=>absurd (by rw [←l1,←l2];exact q) z
    exact ⟨fun Q q=>PySem.W.keq_eq na nb da db (by omega) nh (by rw [ez];exact q),fun Q q=>PySem.W.keq_ne na nb da db (by omega) nh (by rw [ez];exact q)⟩
theorem yz (hu:X.A.units+64 < cLine):OpS X (compareOp .Eq) wG:=by
 intro pins s σ H x y v u Q I rx ry hh
 obtain ⟨ρ,h,d,e,z,h',S,rd,re,ee,k⟩:=hh
 obtain ⟨c,e1,e2⟩:=mpd ee
 cases e2
 exact (uy hu I rx ry S rd re e1).1 _ ⟨.bl _,H,I,rfl,k _ _ (.here S (.bl _))⟩
theorem jk (hu:X.A.units+64 < cLine):OpS X (compareOp .NotEq) gz:=by
 intro pins s σ H x y v u Q I rx ry hh
 obtain ⟨ρ,h,d,e,z,h',S,rd,re,ee,k⟩:=hh
 obtain ⟨c,e1,e2⟩:=mpd ee
 cases e2
 exact (uy hu I rx ry S rd re e1).2 _ ⟨.bl _,H,I,rfl,k _ _ (.here S (.bl _))⟩
def fO:List D→Option (List (Key×D))
 | []=>some []
 | .tup [k,v]::r=>(fy k).bind fun k=>(fO r).map fun q=>(k,v)::q
 | _=>none
def dh (acc:List (Key×D)) (ps:List (Key×D)):List (Key×D):=ps.foldl (fun a p=>putD a p.1 p.2) acc
def mC:Fn:=fun ds h=>match ds with
 | [d]=>match bp d h with
  | some kvs=>some (.dv kvs,h)
  | none=>(g6 d h).bind fun xs=>(fO xs).bind fun ps=>if xs.length≤1000000 then some (.dv (dh [] ps),h) else none
 | _=>none
theorem ji {K:PySem.W.Frag} {ρ:Ad} {H:Hp}:∀{vs:List V} {xs:List D} {ps:List (Key×D)},RepL K ρ H vs xs→fO xs=some ps→∃kvs,gI K H vs kvs∧RepK K ρ H kvs ps
 | _,_,_,.nil,e=>by cases e;exact ⟨[],.nil,.nil⟩
 | _,_,_,.cons r l,e=>by
  cases r <;> first | (cases e;done) | skip
  rename_i a ws ds h0 l0
  match ds,l0,e with
  | [],_,e=>cases e
  | [_],_,e=>cases e
  | _::_::_::_,_,e=>cases e
  | [k,v],l0,e=>
   obtain ⟨ky,e1,e2⟩:=bnd e
   obtain ⟨q,e3,e4⟩:=mpd e2
   subst e4
   obtain ⟨x,y,rfl,rk,rv⟩:=rep2 l0
   obtain ⟨kvs,p1,p2⟩:=ji l e3
   have ek:=cW rk e1
   subst ek
   exact ⟨(ky,y)::kvs,.cons ⟨a,rfl,h0.sq⟩ p1,.cons rv p2⟩
theorem RepK.merge {K:PySem.W.Frag} {ρ:Ad} {H:Hp}:∀{kvs:List (Key×V)} {ps:List (Key×D)} {acc:List (Key×V)} {ac:List (Key×D)},RepK K ρ H acc ac→RepK K ρ H kvs ps→RepK K ρ H (aC acc kvs) (dh ac ps)
 | _,_,_,_,a,.nil=>a
 | _,_,acc,ac,a,.cons (k:=k) (v:=v) (d:=d) r l=>RepK.merge (acc:=putK acc k v) (ac:=putD ac k d) (a.put r) l
theorem uI (hc:X.calm=true):eC X (.type "dict") mC:=by
 intro pins s σ H xs us Q I r hh
 obtain ⟨ρ,h,ds,z,h',S,l,ee,k⟩:=hh
 match ds,l,ee with
 | [],_,ee=>cases ee
 | _::_::_,_,ee=>cases ee
 | [d],l,ee=>
  obtain ⟨v,rfl,rd⟩:=rep1 l
  unfold mC at ee
  dsimp only at ee
  cases q:bp d h with
  | some kvs=>
   rw [q] at ee
   cases ee
   obtain ⟨a,ws,rfl,ha,lk⟩:=cA S rd q
   obtain ⟨u,rfl,ru⟩:=Vals.one r
   obtain rfl:u=Value.ref a:=ru
   exact nZ I (.inl ha) fun p s' hp I'=>⟨.ref p,_,I',rfl,k _ _ (.dv S lk hp)⟩
  | none=>
   rw [q] at ee
   obtain ⟨ys,e1,e2⟩:=bnd ee
   obtain ⟨ps,e3,e4⟩:=bnd e2
   by_cases c:ys.length≤1000000
   ·rw [if_pos c] at e4;cases e4
    obtain ⟨a,vs,rfl,ha,l2⟩:=dU S rd e1
    obtain ⟨kvs,p1,p2⟩:=ji l2 e3
    exact jN hc pins s σ H _ us Q I r ⟨a,vs,kvs,rfl,ha,p1,by rw [l2.length];exact c,fun q hq=>k _ _ (.dv S (RepK.merge .nil p2) hq)⟩
   ·rw [if_neg c] at e4;cases e4
end
end Sm
namespace Sm
open PySem L2 PySem.Spec PyProof.Rows
theorem qx:bootBuiltins "list"=some (.type "list"):=by decide+kernel
theorem oh:bootBuiltins "tuple"=some (.type "tuple"):=by decide+kernel
theorem qy:bootBuiltins "dict"=some (.type "dict"):=by decide+kernel
theorem wN:bootBuiltins "bool"=some (.type "bool"):=by decide+kernel
theorem gc:bootBuiltins "len"=some (.builtin "len"):=by decide+kernel
theorem uR:bootBuiltins "abs"=some (.builtin "abs"):=by decide+kernel
theorem kh:bootBuiltins "isinstance"=some (.builtin "isinstance"):=by decide+kernel
theorem zh:bootBuiltins "all"=some (.builtin "all"):=by decide+kernel
theorem zg:bootBuiltins "any"=some (.builtin "any"):=by decide+kernel
def xq (sc:Scope) (x:Str):Bool:=match sc.names.lookup x with
 | some .local=>true
 | some .cell=>true
 | some .free=>true
 | _=>false
def wm (sc:Scope) (x:Str):Bool:=match sc.names.lookup x with
 | some .local=>true
 | some .cell=>true
 | _=>false
def fnB (X:Cx) (x:Str):Bool:=X.fn x||(match X.env.scope.names.lookup x with
 | some .local=>true
 | _=>false)
theorem xp {sc:Scope} {x:Str} (h:xq sc x=true):Vis sc x:=by
 unfold xq at h
 split at h <;> first | (cases h;done) | skip
 ·exact .inl ‹_›
 ·exact .inr (.inl ‹_›)
 ·exact .inr (.inr ‹_›)
theorem t7 {sc:Scope} {x:Str} (h:wm sc x=true):Loc sc x:=by
 unfold wm at h
 split at h <;> first | (cases h;done) | skip
 ·exact .inl ‹_›
 ·exact .inr ‹_›
theorem uf {X:Cx} {x:Str} (h:fnB X x=true):X.fn x=true∨X.env.scope.names.lookup x=some .local:=by
 unfold fnB at h
 rw [Bool.or_eq_true] at h
 rcases h with h | h
 ·exact .inl h
 ·split at h
  ·exact .inr ‹_›
  ·cases h
section
variable {X:Cx} {pos:Pos}
theorem sv (i:Nat) {x:Str} (hN:X.N[i]?=some x:=by kernel_rfl) (hv:xq X.env.scope x=true:=by kernel_rfl) (hd:(x==("__debug__":Str))=false:=by kernel_rfl)
  (hcd:(x==("__classdict__":Str))=false:=by kernel_rfl):SE X (.Name x pos) (ae i):=xM hN (xp hv) hd hcd
theorem sset (i:Nat) {x:Str} {pos':Pos} {e:Expr} {ma:EM} (hN:X.N.Nodup) (he:SE X e ma) (hi:X.N[i]?=some x:=by kernel_rfl) (hx:wm X.env.scope x=true:=by kernel_rfl) (hs:swapsWith e (some (.Name x pos')) pos.line X.env=pure false:=by kernel_rfl)
  (hf:fnB X x=true:=by kernel_rfl):SS X (.Assign [.Name x pos'] e pos) (aW i ma):=xG hN hi (t7 hx) he hs (uf hf)
theorem sgn (i:Nat) {x:Str} (hN:X.N.Nodup) (hi:X.N[i]?=some x:=by kernel_rfl) (hx:wm X.env.scope x=true:=by kernel_rfl) (hf:fnB X x=true:=by kernel_rfl):SG X (.Name x pos) (gN i):=ve hN hi (t7 hx) (uf hf)
def Bi (i j:Nat) (m:AM):SM:=fun δ h=>(m δ h).bind fun p=>match p.1 with
 | [a,b]=>some (.nx,(δ.set i (some a)).set j (some b),p.2)
 | _=>none
structure Df (P:Program) (w:World) (K:PySem.W.Frag) (mg:Str→Option Value) (base:Heap) (nm:Str) (k:Nat) (ps:List Str) (n:Nat) (F:Fn):Prop where
 ex:∃(f:Addr) (fd:FuncData),FnOk P w K mg base CX0 k f fd ps (spF K n F)∧PySem.W.keepIn K (.ref f)=true∧Binds K fd ps []∧mg nm=some (.ref f)
theorem aJ {nm:Str} {k k' n:Nat} {ps:List Str} {F:Fn} {e:Expr} {es:List Expr} {p:Pos} {m:AM} (d:Df X.prog X.w X.K X.mg X.base nm k ps n F) (hr:Room k' X.A) (hk:k≤k') (ha:SA X (e::es) m) (hl:iL m n) (hg:Gl X nm:=by unfold Gl;kernel_rfl) (hdb:(nm==("__debug__":Str))=false:=by kernel_rfl)
  (he:starEach (e::es) X.env=(false,eval e X.env)::starEach es X.env:=by kernel_rfl) (hpl:(backTo pos (starEach es X.env)).any (·.1)=false:=by kernel_rfl):SE X (.Call (.Name nm p) (e::es) [] pos) (eFn F m):=by
 obtain ⟨f,fd,G,kf,bf,mf⟩:=d.ex
 exact vj G (hr.mono hk) hg mf kf bf ha hl hdb he hpl
end
end Sm
namespace L2
open PySem PySem.Spec PyProof.Rows
abbrev TK:=St→Hp→(St→Hp→Prop)→Prop
def PM (B:Cx) (act:Sem Unit) (t:TK):Prop:=
 ∀(pins:List (Addr×Obj)) (s:Shared) (τ:St) (H:Hp) (N:St→Hp→Prop),Inv B pins τ H s→t τ H N→wpAny (model B.prog B.w) B.A act (fun _ s'=>∃τ' H',Inv B pins τ' H' s'∧N τ' H') B.xe s
def jT (J:It) (g:TG) (tc:TT) (tm:TK) (N:St→Hp→Prop) (τ0:St) (H0:Hp):Prop:=
 ∃W:Nat→Nat→St→Hp→Prop,(∃m,W 0 m τ0 H0)∧∀i m τ H2,W i m τ H2→
  (J.stop i H2∧N τ H2)∨(J.go i H2∧∃N':St→Hp→Prop,(∀τ' H',N' τ' H'→∃m',m' < m∧W (i+1) m' τ' H')∧∀x H',J.yld i H2 x H'→g x τ H' fun τ2 H3=>
   tc τ2 H3 fun b H4=>if b=true then tm τ2 H4 N' else N' τ2 H4)
def c6 (e:Expr) (d:Nat) (tg:Expr) (ifs:List Expr) (act:Sem Unit) (p:Pos) (it acc:Value) (env:Env):Sem Fin:=do
 standAt p
 match←pyNext it with
 | none=>pure (.done .next)
 | some v=>
  letOwnedTupleGo tg it v
  assign tg env v
  let mut ok:=true
  for c in ifs do
   if ok then ok←isTrue c env (eval c env)
  if ok then act
  again (.compLoop e d it acc env)
def gv (e:Expr) (d:Nat) (iter:Expr) (acc:Value) (env:Env):Sem Unit:=do
 let x←eval iter env
 standAt iter.pos
 let x←foldedSetIterable iter env x
 let _←runOwn (.compStart e d (←holding [x] (pyIter x)) acc env) env
theorem mU (elt t1 i1 t2 i2:Expr) (f1 f2:List Expr) (sc:Scope) (pos:Pos) (it acc:Value) (env:Env):
  compTurn (.SetComp elt [⟨t1,i1,f1,0⟩,⟨t2,i2,f2,0⟩] sc pos) 0 it acc env=c6 (.SetComp elt [⟨t1,i1,f1,0⟩,⟨t2,i2,f2,0⟩] sc pos) 0 t1 f1 (gv (.SetComp elt [⟨t1,i1,f1,0⟩,⟨t2,i2,f2,0⟩] sc pos) 1 i2 acc env) i1.pos it acc env:=by
 refine Eq.trans (b:=(do
   standAt i1.pos
   match←pyNext it with
   | none=>pure (.done .next)
   | some v=>
    letOwnedTupleGo t1 it v
    assign t1 env v
    let mut ok:=true
    for c in f1 do
     if ok then ok←isTrue c env (eval c env)
    if ok then
     let x←eval i2 env
     standAt i2.pos
     let x←foldedSetIterable i2 env x
     let _←runOwn (.compStart (.SetComp elt [⟨t1,i1,f1,0⟩,⟨t2,i2,f2,0⟩] sc pos) 1 (←holding [x] (pyIter x)) acc env) env
    again (.compLoop (.SetComp elt [⟨t1,i1,f1,0⟩,⟨t2,i2,f2,0⟩] sc pos) 0 it acc env):Sem Fin)) rfl ?_
 unfold c6 gv
 simp only [bind_assoc,pure_bind]
def emitSet (elt:Expr) (acc:Value) (env:Env):Sem Unit:=do let v←eval elt env;standAt elt.pos;let _←call (.builtin "set.add") [acc,v]
theorem mT (elt t1 i1 t2 i2:Expr) (f1 f2:List Expr) (sc:Scope) (pos:Pos) (it acc:Value) (env:Env):
  compTurn (.SetComp elt [⟨t1,i1,f1,0⟩,⟨t2,i2,f2,0⟩] sc pos) 1 it acc env=c6 (.SetComp elt [⟨t1,i1,f1,0⟩,⟨t2,i2,f2,0⟩] sc pos) 1 t2 f2 (emitSet elt acc env) i2.pos it acc env:=by rfl
def gC (k v:Expr) (d:Addr) (env:Env):Sem Unit:=do
 let kv←eval k env
 let vv←holding [kv] (eval v env)
 standAt {k.pos with endLine:=v.pos.endLine,endCol:=v.pos.endCol}
 holding [kv,vv] (dictSet d kv vv)
theorem oA (k v t1 i1:Expr) (f1:List Expr) (sc:Scope) (pos:Pos) (it:Value) (d:Addr) (env:Env):
  compTurn (.DictComp k v [⟨t1,i1,f1,0⟩] sc pos) 0 it (.ref d) env=c6 (.DictComp k v [⟨t1,i1,f1,0⟩] sc pos) 0 t1 f1 (gC k v d env) i1.pos it (.ref d) env:=by rfl
structure Plain (e:Expr):Prop where
 loop:∀(P:Program) (w:World) (d:Nat) (it acc:Value) (env:Env),(model P w).den (.compLoop e d it acc env)=(compTurn e d it acc env).onRaise (fun x=>do noteFrame x env;theTreesLotGoes x)
 start:∀(P:Program) (w:World) (d:Nat) (it acc:Value) (env:Env),(model P w).den (.compStart e d it acc env)=(compStart e d it acc env).onRaise (fun x=>do noteFrame x env;standAt theWindowsPlace)
 ul:∀(A:Around) (d:Nat) (it acc:Value) (env:Env),A.under (.compLoop e d it acc env)=A
 us:∀(A:Around) (d:Nat) (it acc:Value) (env:Env),A.under (.compStart e d it acc env)=A
theorem kL (elt:Expr) (gs:List Comprehension) (sc:Scope) (pos:Pos):Plain (.SetComp elt gs sc pos):=⟨fun _ _ _ _ _ _=>rfl,fun _ _ _ _ _ _=>rfl,fun _ _ _ _ _=>rfl,fun _ _ _ _ _=>rfl⟩
theorem oW (k v:Expr) (gs:List Comprehension) (sc:Scope) (pos:Pos):Plain (.DictComp k v gs sc pos):=⟨fun _ _ _ _ _ _=>rfl,fun _ _ _ _ _ _=>rfl,fun _ _ _ _ _=>rfl,fun _ _ _ _ _=>rfl⟩
section
variable {B:Cx} {e:Expr} {d:Nat} {tg:Expr} {ifs:List Expr} {act:Sem Unit} {p:Pos} {it:Addr} {acc:Value} {g:TG} {tc:TT} {tm:TK}
theorem xm (hk:Plain e) (ht:compTurn e d (.ref it) acc B.env=c6 e d tg ifs act p (.ref it) acc B.env) (hc:B.calm=true) (hx:B.xe=fun _ _=>False) (hg:PG B tg g) (hif:PIf B ifs tc) (hm:PM B act tm)
  {pins:List (Addr×Obj)} {τ:St} {H:Hp} {s:Shared} {fp:List Addr} {tn:Nat→Heap→Prop} {J:It} (I:Inv B pins τ H s) (T:Turn B.prog B.w B.K tg J fp it tn) (st:tn 0 s.heap) (hf:∀b∈fp,dm B pins H b)
  {N:St→Hp→Prop} (hw:jT J g tc tm N τ H):
  codeAny (model B.prog B.w) B.A (.compLoop e d (.ref it) acc B.env) (fun r s'=>r=.ok .next∧∃τ' H',Inv B pins τ' H' s'∧N τ' H') s:=by
 obtain ⟨W,⟨m0,w0⟩,turn⟩:=hw
 have stat:∀{H':Hp},(∀b∈fp,H' b=none)→∀b∈fp,dm B pins H' b:=fun hn b hb=>⟨hn b hb,(hf b hb).2⟩
 have up:∀{α:Type} {t:Sem α} {Q:α→Shared→Prop} {E:Value→Shared→Prop} {s:Shared},wpAny (model B.prog B.w) B.A t Q B.xe s→wpAny (model B.prog B.w) B.A t Q E s:=fun h=>upE (hx ▸ h)
 refine codeAny_loop rfl (fun n s'=>∃i τ' H',Inv B pins τ' H' s'∧tn i s'.heap∧(∀b∈fp,H' b=none)∧W i n τ' H') ?_ m0 ⟨0,_,_,I,st,fun b hb=>(hf b hb).1,w0⟩
 rintro n s4 ⟨i,τ4,H4,J4,st4,fr4,w4⟩
 rw [hk.ul,hk.loop]
 refine wpAny_noted ?_
 rw [ht]
 unfold c6
 rcases turn i n τ4 H4 w4 with ⟨stop,qn⟩ | ⟨go,N',hN,step⟩
 ·refine wpAny_bind (wpAny_standAt (wpAny_bind (wpAny_mono (T.done B rfl rfl rfl hc i pins s4 τ4 H4 _ J4 (stat fr4) st4 stop) (fun r s5 h5=>?_) fun _ _ e=>e)))
  obtain ⟨hr,J5⟩:=h5
  subst hr
  exact wpAny_pure ⟨rfl,_,_,J5,qn⟩
 ·refine wpAny_bind (wpAny_standAt (wpAny_bind (wpAny_mono (T.item B rfl rfl rfl hc i pins s4 τ4 H4 _ J4 (stat fr4) st4 go) (fun r s5 h5=>?_) fun _ _ e=>e)))
  obtain ⟨u,hr,h5⟩:=h5
  subst hr
  refine wpAny_bind (wpAny_mono h5 (fun _ s6 h6=>?_) fun _ _ e=>e)
  obtain ⟨x,H6,J6,r6,y6,st6,fr6⟩:=h6
  have J6':=J6.pinned (stat fr6) (T.obj _ _ st6)
  refine wpAny_bind (wpAny_mono (up (hg _ s6 τ4 H6 x u _ J6' r6 (step x H6 y6))) (fun _ s7 h7=>?_) fun _ _ e=>e)
  obtain ⟨τ7,H7,J7,q7⟩:=h7
  have again:∀{τ8:St} {H8:Hp} {s8:Shared},Inv B (pins++gZ fp s6.heap) τ8 H8 s8→N' τ8 H8→
    ∃m,m < n∧∃i τ' H',Inv B pins τ' H' s8∧tn i s8.heap∧(∀b∈fp,H' b=none)∧W i m τ' H':=fun {τ8 H8 s8} J8 n8=>by
   obtain ⟨m',hm,w8⟩:=hN τ8 H8 n8
   refine ⟨m',hm,i+1,τ8,H8,J8.eN,T.keep _ _ _ st6 fun b hb o e=>(J8.pin (b,o) (List.mem_append_right _ (List.mem_append_right _ (cm hb e)))).1,fun b hb=>?_,w8⟩
   obtain ⟨o,e,d⟩:=T.obj _ _ st6 b hb
   exact (J8.pin (b,o) (List.mem_append_right _ (List.mem_append_right _ (cm hb e)))).2.1
  refine wpAny_bind (wpAny_mono (up (hif _ s7 τ7 H7 _ J7 q7)) (fun ok s8 h8=>?_) fun _ _ e=>e)
  obtain ⟨H8,J8,q8⟩:=h8
  cases ok with
  | false=>exact wpAny_pure ⟨rfl,again J8 (by simpa using q8)⟩
  | true=>
   have q8':tm τ7 H8 N':=by simpa using q8
   refine wpAny_bind (wpAny_mono (up (hm _ s8 τ7 H8 _ J8 q8')) (fun _ s9 h9=>?_) fun _ _ e=>e)
   obtain ⟨τ9,H9,J9,n9⟩:=h9
   exact wpAny_pure ⟨rfl,again J9 n9⟩
theorem uF {env:Env} {it acc:Value} {iter:Expr} {prog:Program} {w:World} {A:Around} {s:Shared} {R:Result→Shared→Prop} (hk:Plain e) (hcl:(clausesOf e)[d]?=some ⟨tg,iter,ifs,0⟩)
  (h0:codeAny (model prog w) A (.compLoop e d it acc env) R s)
  (h:wpAny (model prog w) A (pyIter it) (fun it' s'=>codeAny (model prog w) A (.compLoop e d it' acc env) R s') (notedBy (model prog w) A env fun x s'=>R (.error x) s') s):
  codeAny (model prog w) A (.compStart e d it acc env) R s:=by
 refine codeAny_of_tree ?_
 rw [hk.us,hk.start]
 refine wpAny_notedAt ?_
 unfold compStart
 rw [hcl]
 show wpAny _ _ (ask >>=_) _ _ s
 refine wpAny_bind (wpAny_askSetting (wpAny_ite ?_))
 split
 ·first
   | exact wpAny_bind (wpAny_pure (wpAny_pure (And.intro rfl h0)))
   | exact wpAny_pure (And.intro rfl h0)
 ·first
   | exact wpAny_bind (wpAny_rule (wpAny_bind (wpAny_standAt (wpAny_bind (wpAny_mono h (fun it' s' h'=>wpAny_pure (And.intro rfl h')) fun _ _ x=>x)))))
   | (refine wpAny_bind (wpAny_rule ?_);show wpAny _ _ (standAt iter.pos >>=_) _ _ s;exact wpAny_bind (wpAny_standAt (wpAny_bind (wpAny_mono h (fun it' s' h'=>wpAny_pure (And.intro rfl h')) fun _ _ x=>x))))
def zH (wi:TI) (g:TG) (tc:TT) (tm:TK):TK:=fun τ H N=>wi τ H fun J H1=>jT J g tc tm N τ H1
theorem vS {iter:Expr} {wi:TI} (hk:Plain e) (hcl:(clausesOf e)[d]?=some ⟨tg,iter,ifs,0⟩) (ht:∀it:Addr,compTurn e d (.ref it) acc B.env=c6 e d tg ifs act p (.ref it) acc B.env) (hc:B.calm=true) (hx:B.xe=fun _ _=>False)
  (hi:PI B tg iter wi) (hg:PG B tg g) (hif:PIf B ifs tc) (hm:PM B act tm) (hs:∀x,foldedSetIterable iter B.env x=pure x:=by intro _;rfl):PM B (gv e d iter acc B.env) (zH wi g tc tm):=by
 intro pins s τ H N I h
 unfold gv
 refine wpAny_bind (thn (hi pins s τ H _ I h) fun v s1 h1=>?_)
 refine wpAny_bind (wpAny_standAt (wpAny_bind (wpAny_of_eq (hs v) (wpAny_bind (wpAny_holding (thn h1 fun itv s2 h2=>?_))))))
 obtain ⟨it,fp,tn,J,H2,e,I2,T,st2,f2,hQ⟩:=h2
 subst e
 have lp:=xm hk (ht it) hc hx hg hif hm I2 T st2 f2 hQ
 refine wpAny_bind (wpAny_runOwn (codeAny_mono (uF hk hcl lp (T.self B.A 0 _ _ _ st2 lp)) fun r s' hr=>?_))
 obtain ⟨rfl,q⟩:=hr
 exact wpAny_pure q
end
end L2
namespace L2
open PySem PySem.Spec PyProof.Rows
def wV (X:Cx) (na:Sem Value) (o:Addr→HO):Prop:=∀(pins:List (Addr×Obj)) (s:Shared) (σ:St) (H:Hp) (Q:Value→Shared→Prop) (E:Value→Shared→Prop),Inv X pins σ H s→
 (∀(obj:Obj) (t':Nat),Inv X pins σ (upd H s.heap.objs.size (o s.heap.objs.size)) {s with heap:=s.heap.push obj,toks:=t'}→Q (.ref s.heap.objs.size) {s with heap:=s.heap.push obj,toks:=t'})→wpAny (model X.prog X.w) X.A na Q E s
def gL (caps:List (Option Nat)) (wi:TI) (o:Addr→HO) (g:TG) (tc:TT) (tm:Addr→TK):TE:=fun σ H Q=>wi σ H fun J H1=>∀l,H1 l=none→jT J g tc (tm l) (fun _ H'=>Q (.ref l) H') (ib caps σ) (upd H1 l (o l))
section
variable {X:Cx} {N':List Str} {caps:List (Option Nat)} {scope:Scope} {e tg iter:Expr} {ifs:List Expr} {p:Pos} {wi:TI} {g:TG} {tc:TT} {tm:Addr→TK} {o:Addr→HO} {na:Sem Value} {act:Addr→Env→Sem Unit}
theorem zf (S:CompScope X N' caps scope) (hc:X.calm=true) (hk:Plain e) (hcl:(clausesOf e)[0]?=some ⟨tg,iter,ifs,0⟩) (ht:∀(it l:Addr) (env:Env),compTurn e 0 (.ref it) (.ref l) env=c6 e 0 tg ifs (act l env) p (.ref it) (.ref l) env)
  (hA:wV X na o) (hg:∀C s₃ H₃ fp pl,PG (blk X N' scope C s₃ H₃ fp pl) tg g) (hif:∀C s₃ H₃ fp pl,PIf (blk X N' scope C s₃ H₃ fp pl) ifs tc)
  (hm:∀C s₃ H₃ fp pl l,PM (blk X N' scope C s₃ H₃ fp pl) (act l (blk X N' scope C s₃ H₃ fp pl).env) (tm l)) {pins:List (Addr×Obj)} {σ:St} {H:Hp} {s:Shared} {it:Addr} {fp:List Addr} {tn:Nat→Heap→Prop} {J:It}
  (I:Inv X pins σ H s) (T:Turn X.prog X.w X.K tg J fp it tn) (st:tn 0 s.heap) (hf:∀b∈fp,dm X pins H b) {Q:VK} {RR:Value→Addr→Result→Shared→Prop} {E:Value→Shared→Prop}
  (h:∀l,H l=none→jT J g tc (tm l) (fun _ H'=>Q (.ref l) H') (ib caps σ) (upd H l (o l)))
  (hRR:∀(l C:Addr) (H':Hp) (s':Shared),H' C=none→C≠X.env.locals→X.s₀.heap.objs.size≤C→(∀x c,X.env.cells.lookup x=some c→c≠C)→(∀p∈X.pn++pins,p.1≠C)→(∃m,s'.heap.Ns C m)→Inv X pins σ H' s'→
   (∀h'':Heap,(∀b u,b≠C→s'.heap.get? b=some u→h''.get? b=some u)→Inv X pins σ H' {s' with heap:=h''})→Q (.ref l) H'→RR (.ref l) C (.ok .next) s'):
  wpAny (model X.prog X.w) X.A na (fun acc s₃=>wpAny (model X.prog X.w) X.A (newFunctionEnv scope X.env.globals (dj X.env scope.names []) [] X.env.qual none .none (some X.env)) (fun cenv s₄=>
   codeAny (model X.prog X.w) X.A (.compStart e 0 (.ref it) acc {cenv with scope:=relabel scope X.env}) (RR acc cenv.locals) s₄) E s₃) E s:=by
 have hw:=h s.heap.objs.size I.fresh
 refine hA pins s σ H _ _ I fun obj t' I3=>wpAny_newFunctionEnv S.nocell (by intro y hy;simp at hy) (fun h₁ hns₁ hsb₁=>?_) S.kind
 have hltf:∀b∈fp,b < s.heap.objs.size:=fun b hb=>by
  obtain ⟨o,e,_⟩:=T.obj 0 _ st b hb
  exact Heap.lt_size e
 have hf3:∀b∈fp,dm X pins (upd H s.heap.objs.size (o s.heap.objs.size)) b:=fun b hb=>⟨by rw [ai (Nat.ne_of_lt (hltf b hb))];exact (hf b hb).1,(hf b hb).2⟩
 have keep3:∀b u,(s.heap.push obj).get? b=some u→h₁.get? b=some u:=fun b u e=>hsb₁.extBut b u (Nat.ne_of_lt (Heap.lt_size e)) (Heap.get?_push_of_some _ e)
 have st3:tn 0 h₁:=T.keep 0 _ _ st fun b hb o e=>keep3 b o (Heap.get?_push_of_some _ e)
 have hlt3:∀b∈fp,b < (s.heap.push obj).objs.size:=fun b hb=>by
  have:=hltf b hb
  rw [Heap.size_push]
  exact Nat.lt_succ_of_lt this
 have J0:=Inv.block S I3 hc hf3 hlt3 hns₁ keep3 (t₄:=t')
 have fpB:∀b∈fp,dm (blk X N' scope (s.heap.push obj).objs.size {s with heap:=s.heap.push obj,toks:=t'} (upd H s.heap.objs.size (o s.heap.objs.size)) fp pins) [] (upd H s.heap.objs.size (o s.heap.objs.size)) b:=fun b hb=>by
  obtain ⟨f0,f1,f2,f3,f4,f5⟩:=hf3 b hb
  refine ⟨f0,Nat.ne_of_lt (hlt3 b hb),fun z=>?_,.inl hb,fun x c e=>f4 x c (S.look I3.ok e),fun p hp=>?_⟩
  ·rcases List.mem_cons.mp (I3.gM b z) with q | q
   ·exact f1 q
   ·exact f2 q
  ·rcases List.mem_append.mp hp with q | q
   ·exact f5 p q
   ·cases q
 have lp:=xm hk (ht it s.heap.objs.size _) rfl rfl (hg _ _ _ _ _) (hif _ _ _ _ _) (hm _ _ _ _ _ s.heap.objs.size) J0 T st3 fpB hw
 refine codeAny_mono (uF hk hcl lp (T.self X.A 0 _ _ _ st3 lp)) fun r s' hr=>?_
 obtain ⟨rfl,τ,H',J,q⟩:=hr
 refine hRR _ _ H' s' J.free ?_ ?_ ?_ ?_ ?_ ?_ ?_ q
 ·exact (Nat.ne_of_lt I3.lt).symm
 ·exact I3.sz
 ·intro x c e z
  obtain ⟨v,o,ho,_⟩:=I3.cell x c e
  exact Nat.ne_of_lt (Heap.lt_size ho) z
 ·intro p hp z
  obtain ⟨e,_⟩:=I3.pin p hp
  exact Nat.ne_of_lt (Heap.lt_size e) z
 ·obtain ⟨m,hm,_⟩:=J.loc
  exact ⟨m,hm⟩
 ·have:=Inv.iM S I3 hf3 J (h'':=s'.heap) fun b u _ e=>e
  exact this
 ·exact fun h'' hs=>Inv.iM S I3 hf3 J hs
theorem nD {p0:Pos} (S:CompScope X N' caps scope) (hc:X.calm=true) (hk:Plain e) (hcl:clausesOf e=⟨tg,iter,ifs,0⟩::gs) (ht:∀(it l:Addr) (env:Env),compTurn e 0 (.ref it) (.ref l) env=c6 e 0 tg ifs (act l env) p (.ref it) (.ref l) env)
  (hA:wV X na o) (hi:PI X tg iter wi) (hg:∀C s₃ H₃ fp pl,PG (blk X N' scope C s₃ H₃ fp pl) tg g) (hif:∀C s₃ H₃ fp pl,PIf (blk X N' scope C s₃ H₃ fp pl) ifs tc)
  (hm:∀C s₃ H₃ fp pl l,PM (blk X N' scope C s₃ H₃ fp pl) (act l (blk X N' scope C s₃ H₃ fp pl).env) (tm l)) (he:eval e X.env=comprehension e scope X.env p0 na false (eval iter X.env))
  (hs:∀x,foldedSetIterable iter X.env x=pure x:=by intro _;rfl):PE X e (gL caps wi o g tc tm):=by
 intro pins s σ H Q I h
 rw [he]
 refine wpAny_comprehension_free (use:=none) hcl hs (jJ (S.has I.ok)) S.kind S.names (thn (hi pins s σ H _ I h) fun v s1 h1=>thn h1 fun itv s2 h2=>?_)
 obtain ⟨it,fp,tn,J,H2,e,I2,T,st2,f2,hQ⟩:=h2
 subst e
 refine zf (RR:=fun acc C=>compPost (model X.prog X.w) X.A X.xe none (EP X pins σ Q) acc C) S hc hk (by rw [hcl];rfl) ht hA hg hif hm I2 T st2 f2 hQ ?_
 intro l C H' s' _ _ _ _ _ hm _ hI q
 obtain ⟨m,hm⟩:=hm
 exact ⟨m,hm,fun h'' hs''=>⟨.ref l,H',hI h'' fun b u hb e=>hs''.extBut b u hb e,rfl,q⟩⟩
end
end L2
namespace Sm
open PySem L2 PySem.Spec PyProof.Rows
structure Ac (α:Type) where
 at_:PySem.W.Frag→Ad→Hp→Addr→α→Prop
 mono:∀{K:PySem.W.Frag} {ρ ρ':Ad} {H H':Hp} {l:Addr} {a:α},at_ K ρ H l a→Ch ρ H ρ' H'→H' l=H l→at_ K ρ' H' l a
abbrev MK (α:Type):=DS→MH→α→Option (DS×MH×α)
def bG {α:Type} (ws:W) (g:GM) (c:TM) (m:MK α):List D→MK α
 | [],δ,h,a=>if chk ws h then some (δ,h,a) else none
 | x::r,δ,h,a=>if chk ws h then (g x δ h).bind fun q=>(c q.1 q.2).bind fun t=>if t.1 then (m q.1 t.2 a).bind fun z=>bG ws g c m r z.1 z.2.1 z.2.2 else bG ws g c m r q.1 t.2 a else none
structure StpL (l:Addr) (ρ:Ad) (H:Hp) (ρ':Ad) (H':Hp):Prop where
 ch:Ch ρ H ρ' H'
 rs:ρ'.rs=ρ.rs
 res:∀b∈ρ.rs,b≠l→H' b=H b
theorem StpL.refl {l:Addr} {ρ:Ad} {H:Hp}:StpL l ρ H ρ H:=⟨.refl _ _,rfl,fun _ _ _=>rfl⟩
theorem StpL.trans {l:Addr} {ρ ρ1 ρ2:Ad} {H H1 H2:Hp} (a:StpL l ρ H ρ1 H1) (b:StpL l ρ1 H1 ρ2 H2):StpL l ρ H ρ2 H2:=⟨a.ch.trans b.ch,b.rs.trans a.rs,fun x hx n=>(b.res x (a.rs ▸ hx) n).trans (a.res x hx n)⟩
theorem Stp.toL {l:Addr} {ρ ρ1:Ad} {H H1:Hp} (a:Stp ρ H ρ1 H1):StpL l ρ H ρ1 H1:=⟨a.toCh,a.rs,fun b hb _=>a.res b hb⟩
inductive TMKi {α:Type} (K:PySem.W.Frag) (A:Ac α) (l:Addr) (m:MK α) (τ:L2.St) (H:Hp) (N:L2.St→Hp→Prop):Prop where
 | mk (ρ δ h a δ' h' a'):RepS K ρ H τ δ→Sim K ρ h H→l∈ρ.rs→A.at_ K ρ H l a→(m δ h a=some (δ',h',a'))→(∀ρ' H' τ',StpL l ρ H ρ' H'→Sim K ρ' h' H'→RepS K ρ' H' τ' δ'→A.at_ K ρ' H' l a'→N τ' H')→TMKi K A l m τ H N
def tMK {α:Type} (K:PySem.W.Frag) (A:Ac α) (l:Addr) (m:MK α):TK:=fun τ H N=>TMKi K A l m τ H N
section
variable {α:Type} {K:PySem.W.Frag} {A:Ac α} {l:Addr} {g:GM} {mt:TM} {m:MK α}
theorem p3 {J:It} {ρ ρ1:Ad} {H H1:Hp} {ws:W} {xs:List D} {δ δ':DS} {h h':MH} {a a':α} {τ:L2.St} {N:L2.St→Hp→Prop} (It:ItS K J ρ H ws xs) (T1:Ch ρ H ρ1 H1) (R:RepS K ρ1 H1 τ δ) (S:Sim K ρ1 h H1) (hl:l∈ρ1.rs) (hA:A.at_ K ρ1 H1 l a)
  (e:bG ws g mt m xs δ h a=some (δ',h',a')) (k:∀ρ2 H2 τ2,StpL l ρ1 H1 ρ2 H2→Sim K ρ2 h' H2→RepS K ρ2 H2 τ2 δ'→A.at_ K ρ2 H2 l a'→N τ2 H2):jT J (tMG K g) (tMT K mt) (tMK K A l m) N τ H1:=by
 refine ⟨fun i n τ2 H2=>∃(ρ2:Ad) (δ2:DS) (h2:MH) (a2:α),n=xs.length-i∧i≤xs.length∧StpL l ρ1 H1 ρ2 H2∧RepS K ρ2 H2 τ2 δ2∧Sim K ρ2 h2 H2∧A.at_ K ρ2 H2 l a2∧bG ws g mt m (xs.drop i) δ2 h2 a2=some (δ',h',a'),
  ⟨_,ρ1,δ,h,a,rfl,Nat.zero_le _,.refl,R,S,hA,e⟩,?_⟩
 rintro i n τ2 H2 ⟨ρ2,δ2,h2,a2,rfl,hi,T2,R2,S2,hA2,e3⟩
 have hl2:l∈ρ2.rs:=by rw [T2.rs];exact hl
 cases q:xs.drop i with
 | nil=>
  rw [q] at e3
  unfold bG at e3
  by_cases hc:chk ws h2=true
  ·rw [if_pos hc] at e3
   cases e3
   have hle:xs.length≤i:=by have:=congrArg List.length q;rw [List.length_drop,List.length_nil] at this;omega
   exact .inl ⟨(It.run _ H2 _ (T1.trans T2.ch) S2 hc i).1 hle,k _ _ _ T2 S2 R2 hA2⟩
  ·rw [if_neg hc] at e3;cases e3
 | cons x r=>
  rw [q] at e3
  unfold bG at e3
  by_cases hc:chk ws h2=true
  ·rw [if_pos hc] at e3
   have hx:xs[i]?=some x:=by
    have:=congrArg (fun l=>l[0]?) q
    simpa using this
   have hlt:i < xs.length:=(List.getElem?_eq_some_iff.mp hx).1
   have hr:xs.drop (i+1)=r:=by
    have:=congrArg List.tail q
    simpa using this
   obtain ⟨⟨δ3,h3⟩,e4,e5⟩:=bnd e3
   obtain ⟨⟨t,h4⟩,e6,e7⟩:=bnd e5
   dsimp only at e4 e5 e6 e7
   obtain ⟨hgo,hy⟩:=(It.run _ H2 h2 (T1.trans T2.ch) S2 hc i).2 x hx
   refine .inr ⟨hgo,fun τ5 H5=>∃(ρ5:Ad) (δ5:DS) (h5:MH) (a5:α),StpL l ρ1 H1 ρ5 H5∧RepS K ρ5 H5 τ5 δ5∧Sim K ρ5 h5 H5∧A.at_ K ρ5 H5 l a5∧bG ws g mt m r δ5 h5 a5=some (δ',h',a'),?_,?_⟩
   ·rintro τ5 H5 ⟨ρ5,δ5,h5,a5,T5,R5,S5,A5,e5⟩
    exact ⟨xs.length-(i+1),by omega,ρ5,δ5,h5,a5,rfl,hlt,T5,R5,S5,A5,by rw [hr];exact e5⟩
   ·intro v H3 y3
    obtain ⟨T3,S3,r3⟩:=hy v H3 y3
    refine ⟨ρ2,δ2,h2,x,δ3,h3,R2.mono T3.toCh,S3,r3,e4,fun ρ4 H4 τ4 T4 S4 R4=>?_⟩
    refine ⟨ρ4,δ3,h3,t,h4,R4,S4,e6,fun ρ5 H5 T5 S5=>?_⟩
    have T25:Stp ρ2 H2 ρ5 H5:=T3.trans (T4.trans T5)
    have A5:A.at_ K ρ5 H5 l a2:=A.mono hA2 T25.toCh (T25.res l hl2)
    cases t with
    | false=>
     rw [if_neg (by simp)] at e7
     exact AI ⟨ρ5,δ3,h4,a2,T2.trans T25.toL,R4.mono T5.toCh,S5,A5,e7⟩
    | true=>
     rw [if_pos rfl] at e7
     obtain ⟨⟨δ6,h6,a6⟩,e8,e9⟩:=bnd e7
     refine rL ⟨ρ5,δ3,h4,a2,δ6,h6,a6,R4.mono T5.toCh,S5,by rw [T25.rs];exact hl2,A5,e8,fun ρ7 H7 τ7 T7 S7 R7 A7=>?_⟩
     exact ⟨ρ7,δ6,h6,a6,(T2.trans T25.toL).trans T7,R7,S7,A7,e9⟩
  ·rw [if_neg hc] at e3;cases e3
theorem nu {caps:List (Option Nat)} {mi:IM} {o:Addr→HO} {a0:α} (h0:∀ρ H l,A.at_ K ρ (upd H l (o l)) l a0) {σ:L2.St} {H:Hp} {Q:VK}
  (hh:∃ρ δ h xs ws h1 δ' h' a',RepS K ρ H σ δ∧Sim K ρ h H∧mi δ h=some (xs,ws,h1)∧bG ws g mt m xs (ff caps δ) h1 a0=some (δ',h',a')∧∀l ρ' H',Stp ρ H ρ' H'→Sim K ρ' h' H'→¬ρ'.has l→A.at_ K ρ' H' l a'→Q (.ref l) H'):
  gL caps (tMI K mi) o (tMG K g) (tMT K mt) (fun l=>tMK K A l m) σ H Q:=by
 obtain ⟨ρ,δ,h,xs,ws,h1,δ',h',a',R,S,e1,e2,k⟩:=hh
 refine ⟨ρ,δ,h,xs,ws,h1,R,S,e1,fun J ρ1 H1 T1 S1 It l hl=>?_⟩
 have nl:¬ρ1.has l:=S1.fresh hl
 have Tl:Ch ρ1 H1 (ρ1.keep l) (upd H1 l (o l)):=Ch.keep hl
 refine p3 It Tl (((R.mono T1.toCh).ib caps).mono Tl) (S1.keep hl) (List.mem_cons_self) (h0 _ _ _) e2 fun ρ2 H2 τ2 T2 S2 R2 A2=>?_
 obtain ⟨ob2,rs2⟩:=ρ2
 have ers:rs2=l::ρ1.rs:=T2.rs
 subst ers
 have hsub:∀b∈ρ1.rs,b∈l::ρ1.rs:=fun b hb=>List.mem_cons_of_mem _ hb
 have C2:Ch ⟨ob2,l::ρ1.rs⟩ H2 ⟨ob2,ρ1.rs⟩ H2:=Ch.free hsub
 have hne:∀b∈ρ1.rs,b≠l:=fun b hb z=>nl (.inr (z ▸ hb))
 have T2':Stp ρ1 H1 ⟨ob2,ρ1.rs⟩ H2:=⟨(Tl.trans T2.ch).trans C2,rfl,fun b hb=>(T2.res b (hsub b hb) (hne b hb)).trans (ai (hne b hb))⟩
 refine k l _ H2 (T1.trans T2') (S2.free hsub) (fun z=>?_) (A.mono A2 C2 rfl)
 rcases z with z | z
 ·exact (S2.rsv l List.mem_cons_self).2 z
 ·exact nl (.inr z)
end
def SMK {α:Type} (X:Cx) (act:Addr→Env→Sem Unit) (A:Ac α) (m:MK α):Prop:=∀l,L2.PM X (act l X.env) (tMK X.K A l m)
theorem _root_.L2.PM.imp {X:Cx} {a:Sem Unit} {t t':TK} (h:L2.PM X a t) (i:∀σ H Q,t' σ H Q→t σ H Q):L2.PM X a t':=fun pins s σ H Q I q=>h pins s σ H Q I (i σ H Q q)
def nQ {α:Type} (i:IM) (g:GM) (c:TM) (m:MK α):MK α:=fun δ h a=>(i δ h).bind fun p=>bG p.2.1 g c m p.1 δ p.2.2 a
section
variable {α:Type} {X:Cx} {A:Ac α} {g:GM} {mt:TM} {m:MK α} {mi:IM} {e tg iter:Expr} {ifs:List Expr} {d:Nat} {p:Pos} {act:Addr→Env→Sem Unit}
theorem va (hk:Plain e) (hcl:(clausesOf e)[d]?=some ⟨tg,iter,ifs,0⟩) (ht:∀(it l:Addr) (env:Env),compTurn e d (.ref it) (.ref l) env=c6 e d tg ifs (act l env) p (.ref it) (.ref l) env) (hc:X.calm=true) (hx:X.xe=fun _ _=>False)
  (hi:SI X tg iter mi) (hg:SG X tg g) (hif:SIf X ifs mt) (hm:SMK X act A m) (hs:∀x,foldedSetIterable iter X.env x=pure x:=by intro _;kernel_rfl):SMK X (fun l env=>gv e d iter (.ref l) env) A (nQ mi g mt m):=fun l=>
 (vS hk hcl (fun it=>ht it l X.env) hc hx hi hg hif (hm l) hs).imp fun σ H Q ⟨ρ,δ,h,a,δ',h',a',R,S,hl,hA,ee,k⟩=>by
  obtain ⟨⟨xs,ws,h1⟩,e1,e2⟩:=bnd ee
  exact ⟨ρ,δ,h,xs,ws,h1,R,S,e1,fun J ρ1 H1 T1 S1 It=>p3 It (.refl _ _) (R.mono T1.toCh) S1 (by rw [T1.rs];exact hl) (A.mono hA T1.toCh (T1.res l hl)) e2 fun ρ2 H2 τ2 T2 S2 R2 A2=>k ρ2 H2 τ2 (T1.toL.trans T2) S2 R2 A2⟩
end
end Sm
namespace L2
open PySem PySem.Spec PyProof.Rows
theorem nE (t:SetTable) (n:Nat):(t.orStandIn n).led=t.led∧(t.plain=false→(t.orStandIn n).plain=false):=by
 unfold SetTable.orStandIn
 split
 ·exact ⟨rfl,id⟩
 ·exact ⟨rfl,fun _=>rfl⟩
theorem ju (t:SetTable) (es:Array (Int×Value)) (h:Int) (x:Value):(layNew t es h x).2.1.led=t.led:=by
 unfold layNew
 split
 ·exact (nE _ _).1
 ·rfl
theorem oR (t:SetTable) (hs:Array Int) (n:Nat) (t':SetTable) (o:Array Nat) (e:t.relaid hs n=some (t',o)):t'.led=t.led∧t'.plain=t.plain:=by
 unfold SetTable.relaid SetTable.laid at e
 cases q:SetTable.layClean (SetTable.sizeAbove n-1) hs with
 | none=>rw [q] at e;cases e
 | some owner=>rw [q] at e;cases e;exact ⟨rfl,rfl⟩
theorem lT (t:SetTable) (es:Array (Int×Value)) (n:Nat):(relayAll t es n).2.1.led=t.led∧(t.plain=false→(relayAll t es n).2.1.plain=false):=by
 unfold relayAll
 cases q:t.relaid (es.map (·.1)) n with
 | none=>exact ⟨rfl,fun _=>rfl⟩
 | some p=>
  obtain ⟨t',o⟩:=p
  have hl:=oR _ _ _ _ _ q
  dsimp only
  split
  ·exact ⟨hl.1,fun z=>hl.2.trans z⟩
  ·exact ⟨rfl,fun _=>rfl⟩
def g9 (ks:List Str) (k:Str):Bool:=ks.any fun x=>decide (x=k)
theorem bT {ks:List Str} {k:Str}:g9 ks k=true↔k∈ks:=by unfold g9;simp
def cK (ks:List Str) (k:Str):List Str:=if g9 ks k then ks else ks++[k]
def eg (P:Program) (w:World) (es:Array (Int×Value)) (t:SetTable) (ks:List Str):Prop:=
 ElemsOf (au P w) es.toList∧(∀e∈es.toList,∃x u,e.2=.str x u)∧(es.toList.map fun e=>strOf e.2).Perm ks∧es.size < scanBound∧t.fits es.size=true∧(t.led=!w.params.followText "set-order")∧(es.size≠0→t.plain=false)
def bw (P:Program) (w:World) (h:Heap) (a:Addr) (ks:List Str):Prop:=
 ks.Nodup∧∃o es ep t,h.get? a=some o∧o.ExactSet∧o.data=.set es ep t∧eg P w es t ks
theorem eg.len {P:Program} {w:World} {es:Array (Int×Value)} {t:SetTable} {ks:List Str} (x:eg P w es t ks):es.size=ks.length:=by
 have:=x.2.2.1.length_eq
 simpa using this
theorem dA {P:Program} {w:World} {x:Str} {u:Tok}:(au P w).is (.inr x) (.str x u)=true:=cX (k:=.inr x) (u:=.str x u) ⟨u,rfl⟩
theorem ub {P:Program} {w:World} {x y:Str} {u:Tok} (h:(au P w).is (.inr x) (.str y u)=true):y=x:=by
 have:=(au P w).inj _ _ _ h dA
 injection this with this
 exact this.symm
theorem eg.w6 {P:Program} {w:World} {es:Array (Int×Value)} {t:SetTable} {ks:List Str} (T:eg P w es t ks) (n:Nat):eg P w (relayAll t es n).1 (relayAll t es n).2.1 ks:=by
 obtain ⟨h1,h2,h3,h4,h5,h6,h7⟩:=T
 have hp:=relayAll_perm t es n
 have hs:(relayAll t es n).1.size=es.size:=by have:=hp.length_eq;simpa using this
 have hl:=lT t es n
 exact ⟨h1.perm hp,fun e he=>h2 e (hp.mem_iff.mp he),(hp.map _).trans h3,by rw [hs];exact h4,relayAll_fits t es n,hl.1.trans h6,fun z=>hl.2 (h7 (by rw [←hs];exact z))⟩
theorem eg.lay {P:Program} {w:World} {es:Array (Int×Value)} {t:SetTable} {ks:List Str} (T:eg P w es t ks) {x:Str} {u:Tok} (hb:es.size+1 < scanBound) (f:SetTable) (hf:f={(layNew t es ((au P w).hash (.inr x)) (.str x u)).2.1 with plain:=false}):
  eg P w (layNew t es ((au P w).hash (.inr x)) (.str x u)).1 f (ks++[x]):=by
 obtain ⟨h1,h2,h3,h4,h5,h6,h7⟩:=T
 have hp:=layNew_perm t es ((au P w).hash (.inr x)) (.str x u)
 have hq:=layNew_fits t es ((au P w).hash (.inr x)) (.str x u)
 rw [Array.toList_push] at hp
 have hs:(layNew t es ((au P w).hash (.inr x)) (.str x u)).1.size=es.size+1:=by have:=hp.length_eq;simpa using this
 subst hf
 refine ⟨(h1.push dA rfl).perm hp,fun e he=>?_,(hp.map _).trans ?_,by rw [hs];exact hb,SetTable.fits_plain_off hq,(ju _ _ _ _).trans h6,fun _=>rfl⟩
 ·rcases List.mem_append.mp (hp.mem_iff.mp he) with z | z
  ·exact h2 e z
  ·rw [List.mem_singleton] at z;subst z;exact ⟨x,u,rfl⟩
 ·rw [List.map_append]
  exact h3.append_right _
section
variable {P:Program} {w:World} {A:Around} {E:Value→Shared→Prop} {s:Shared} {a:Addr} {ks:List Str} {x:Str} {u:Tok}
theorem kB {ob:Obj} {es es':Array (Int×Value)} {ep:Nat} {t t':SetTable} {R:Unit→Shared→Prop} (hob:s.heap.get? a=some ob) (hex:ob.ExactSet) (hdt:ob.data=.set es ep t) (hT:eg P w es' t' ks)
  (h:∀h' o',Heap.SameBut a s.heap h'→h'.get? a=some o'→o'.ExactSet→o'.data=.set es' (ep+1) t'→R () {s with heap:=h'}):wpAny (model P w) A (storeSet a es' t') R E s:=by
 refine wpAny_storeSet_of hob hdt (h _ {ob with data:=.set es' (ep+1) t'} (Heap.SameBut.update s.heap a (Obj.putSet es' t')) ?_ hex rfl) (fits_of_scanBound hT.2.2.2.1)
 have:=Heap.get?_update_self (Obj.putSet es' t') hob (by rw [putSet_of es' t' hdt];rfl)
 rw [putSet_of es' t' hdt] at this
 exact this
theorem jV {Q:Bool→Shared→Prop} (hS:bw P w s.heap a ks) (hroom:ks.length+1 < scanBound)
  (h:∀b h',Heap.SameBut a s.heap h'→bw P w h' a (cK ks x)→Q b {s with heap:=h'}):wpAny (model P w) A (setAddHashed a (.str x u) ((au P w).hash (.inr x))) Q E s:=by
 obtain ⟨hn,ob,es,ep,t,hob,hex,hdt,hT⟩:=hS
 obtain ⟨h1,h2,h3,h4,h5,h6,h7⟩:=id hT
 have hsc:(Value.str x u).scannable=true:=rfl
 unfold setAddHashed setAddHashedIn
 refine wpAny_holding (wpAny_bind (wpAny_setState_of hob hdt h5 ?_));dsimp only
 rw [byScan_of hsc h4 h1,if_pos rfl]
 unfold setAddByScan
 refine wpAny_bind (wpAny_bind (wpAny_rule (wpAny_bind (wpAny_setScan_of (dA (x:=x)) hob hdt h5 h1 ?_))))
 have hmem:g9 ks x=true↔∃e∈es.toList,(au P w).is (.inr x) e.2=true:=by
  rw [bT,←h3.mem_iff,List.mem_map]
  constructor
  ·rintro ⟨e,he,rfl⟩
   obtain ⟨y,v,hv⟩:=h2 e he
   exact ⟨e,he,by rw [hv];exact dA⟩
  ·rintro ⟨e,he,hi⟩
   obtain ⟨y,v,hv⟩:=h2 e he
   rw [hv] at hi
   exact ⟨e,he,by rw [hv];exact ub hi⟩
 cases hr:List.findIdx? (fun e=>(au P w).is (.inr x) e.2) es.toList with
 | some j=>
  obtain ⟨hj,hpj,_⟩:=List.findIdx?_eq_some_iff_getElem.mp hr
  have hk:g9 ks x=true:=hmem.mpr ⟨_,List.getElem_mem hj,hpj⟩
  have:=h false s.heap (Heap.SameBut.refl a s.heap) (by unfold cK;rw [if_pos hk];exact ⟨hn,ob,es,ep,t,hob,hex,hdt,hT⟩)
  exact wpAny_pure (wpAny_pure this)
 | none=>
  have hk:g9 ks x=false:=by
   cases z:g9 ks x with
   | false=>rfl
   | true=>
    obtain ⟨e,he,q⟩:=hmem.mp z
    rw [List.findIdx?_eq_none_iff.mp hr e he] at q
    cases q
  have hb:es.size+1 < scanBound:=by rw [hT.len];exact hroom
  have fin:∀(b:Bool) (h':Heap),Heap.SameBut a s.heap h'→(∃o es ep t,h'.get? a=some o∧o.ExactSet∧o.data=.set es ep t∧eg P w es t (ks++[x]))→Q b {s with heap:=h'}:=fun b h' hs hh=>by
   refine h b h' hs ?_
   unfold cK
   rw [if_neg (by rw [hk];simp)]
   refine ⟨List.nodup_append.mpr ⟨hn,by simp,fun c hc d hd z=>?_⟩,hh⟩
   rw [List.mem_singleton] at hd
   subst hd;subst z
   rw [bT.mpr hc] at hk
   cases hk
  dsimp only
  have hlay:=fun f hf=>hT.lay (x:=x) (u:=u) hb f hf
  have hled:=ju t es ((au P w).hash (.inr x)) (.str x u)
  generalize hL:layNew t es ((au P w).hash (.inr x)) (.str x u)=L at hlay hled ⊢
  obtain ⟨es1,t1,wasDummy,gave⟩:=L
  dsimp only at hlay hled ⊢
  have gw:∀{m:Sem Unit} {Q':Unit→Shared→Prop} {s1:Shared},(m=rule "set.scan.the-table-gave-way"∨m=pure ())→Q' () s1→wpAny (model P w) A m Q' E s1:=fun hm q=>by
   rcases hm with rfl | rfl
   ·exact wpAny_rule q
   ·exact wpAny_pure q
  refine wpAny_bind (gw (by cases gave <;> first | exact .inr rfl | exact .inl rfl) ?_)
  have tail:∀t2:SetTable,eg P w es1 t2 (ks++[x])→∀{g:Bool→Sem Unit},(∀b,g b=rule "set.scan.the-table-gave-way"∨g b=pure ())→wpAny (model P w) A (do
    storeSet a es1 t2
    if (!wasDummy&&t2.tooFull)=true then do
      g (relayAll t2 es1 (SetTable.grown es1.size)).2.2
      storeSet a (relayAll t2 es1 (SetTable.grown es1.size)).1 (relayAll t2 es1 (SetTable.grown es1.size)).2.1
      pure (some true)
     else pure (some true)) (fun r s'=>wpAny (model P w) A (match r with | some added=>pure added | none=>setAddHashedIn a (.str x u) ((au P w).hash (.inr x)) 99999) Q E s') E s:=fun t2 hT2 g hg=>by
   refine wpAny_bind (kB hob hex hdt hT2 fun h' o' hs ho' hx' hd'=>?_)
   split
   ·refine wpAny_bind (gw (hg _) (wpAny_bind (kB (s:={s with heap:=h'}) ho' hx' hd' (hT2.w6 _) fun h2' o2 hs2 ho2 hx2 hd2=>?_)))
    exact wpAny_pure (wpAny_pure (fin _ _ (hs.trans hs2) ⟨_,_,_,_,ho2,hx2,hd2,hT2.w6 _⟩))
   ·exact wpAny_pure (wpAny_pure (fin _ _ hs ⟨_,_,_,_,ho',hx',hd',hT2⟩))
  cases hpl:t1.plain with
  | true=>
   rw [if_pos rfl]
   refine wpAny_bind ?_
   rw [hashByValue_scannable 8 hsc]
   refine wpAny_pure ?_
   exact tail _ (hlay _ (by rw [if_neg (by show ¬(false=true);simp)])) (fun b=>by cases b <;> first | exact .inr rfl | exact .inl rfl)
  | false=>
   rw [if_neg (by decide)]
   refine wpAny_bind (wpAny_pure ?_)
   exact tail _ (hlay _ (by rw [if_pos rfl];cases t1;cases hpl;rfl)) (fun b=>by cases b <;> first | exact .inr rfl | exact .inl rfl)
end
end L2
namespace L2
open PySem PySem.Spec PyProof.Rows
theorem fX {α:Type}:∀(xs:List α) (i:Nat) (x:α),xs[i]?=some x→(x::xs.eraseIdx i).Perm xs
 | y::r,0,x,h=>by
  rw [List.getElem?_cons_zero] at h
  cases h
  exact .refl _
 | y::r,i+1,x,h=>by
  rw [List.getElem?_cons_succ] at h
  exact (List.Perm.swap y x _).trans ((fX r i x h).cons y)
theorem pI {M:Model} {A:Around} {E:Value→Shared→Prop} {α:Type}:∀(n:Nat) (xs:List α) (s:Shared) (Q:List α→Shared→Prop),n=xs.length→(∀ys d,ys.Perm xs→Q ys {s with drawn:=d})→wpAny M A (drawOrder n xs) Q E s
 | 0,xs,s,Q,e,h=>by
  have:xs=[]:=List.eq_nil_of_length_eq_zero e.symm
  subst this
  exact wpAny_pure (h [] s.drawn (.refl _))
 | n+1,[],s,Q,e,h=>by cases e
 | n+1,x::r,s,Q,e,h=>by
  unfold drawOrder
  refine wpAny_bind (show wpAny M A (choose .order (x::r).length) _ E s from fun Γ p hΓ=>?_)
  unfold choose
  rw [Sem.wp_choose]
  refine ⟨by simp,?_⟩
  have hlt:M.w.draws .order (s.drawn.get .order) % (x::r).length < (x::r).length:=Nat.mod_lt _ (by simp)
  generalize M.w.draws .order (s.drawn.get .order) % (x::r).length=i at hlt ⊢
  have hx:(x::r)[i]?=some ((x::r)[i]):=List.getElem?_eq_getElem hlt
  generalize (x::r)[i]=y at hx
  show Sem.wp M Γ (pure i) _ _ p _
  refine (wpAny_pure (M:=M) (A:=A) (E:=E) (a:=i) (s:={s with drawn:=s.drawn.bump .order}) ?_) Γ p hΓ
  rw [hx]
  have hlen:n=((x::r).eraseIdx i).length:=by rw [List.length_eraseIdx_of_lt hlt,←e];rfl
  refine wpAny_bind (pI n _ _ _ hlen fun ys d hy=>wpAny_pure ?_)
  exact h (y::ys) d ((hy.cons y).trans (fX _ _ _ hx))
theorem p8 {α:Type} (nx:Nat→Nat):∀(fuel k:Nat) (left:List α) (out:Array α),fuel=left.length→(pickOrder.go nx fuel k left out).toList.Perm (out.toList++left)
 | 0,k,left,out,e=>by
  have:left=[]:=List.eq_nil_of_length_eq_zero e.symm
  subst this
  unfold pickOrder.go
  rw [List.append_nil]
 | fuel+1,k,left,out,e=>by
  unfold pickOrder.go
  have hlt:nx k % left.length < left.length:=Nat.mod_lt _ (by omega)
  have hx:left[nx k % left.length]?=some (left[nx k % left.length]):=List.getElem?_eq_getElem hlt
  generalize left[nx k % left.length]=y at hx
  rw [hx]
  dsimp only
  refine (p8 nx fuel (k+1) _ _ (by rw [List.length_eraseIdx_of_lt hlt];omega)).trans ?_
  rw [Array.toList_push,List.append_assoc]
  exact (fX _ _ _ hx).append_left _
theorem kM {α:Type} (nx:Nat→Nat) (xs:Array α):(pickOrder nx xs).toList.Perm xs.toList:=by
 unfold pickOrder
 have:=p8 nx xs.size 0 xs.toList #[] (by simp)
 simpa using this
inductive Way (w:World) (h:Heap) (a:Addr) (es:Array (Int×Value)) (ep:Nat) (t:SetTable) (vs:List Value) (i:Nat):Value→Prop where
 | drawn {T:Addr} {idx:List Nat} {o:Obj} {n:Nat} (ho:h.get? T=some o) (hcT:o.cls=.type "tuple") (hd:o.data=.seq (idx.map fun (k:Nat)=>rawInt (k:Int)).toArray n) (hp:idx.Perm (List.range es.size)) (hv:vs=idx.filterMap fun k=>(es[k]?).map (·.2)):Way w h a es ep t vs i (.ref T)
 | text (ht:w.params.followText "set-order"=true) (hv:vs=(pickOrder (w.params.setOrder a ep) es).toList.map (·.2)):Way w h a es ep t vs i (.int 0 0)
 | one {slot:Nat} (ht:w.params.followText "set-order"=false) (hz:es.size≤1) (hl:t.led=true) (hs:slot=if i=0 then 0 else (t.place.getD 0 0)+1) (hv:vs=es.toList.map (·.2)):Way w h a es ep t vs i (.int slot 0)
def SIt (w:World) (h:Heap) (J a:Addr) (es:Array (Int×Value)) (ep:Nat) (t:SetTable) (vs:List Value) (i:Nat):Prop:=
 (∃ob,h.get? a=some ob∧ob.data=.set es ep t)∧t.fits es.size=true∧∃o first,h.get? J=some o∧o.cls=.type "set_iterator"∧o.data=.fields #[first,.int i 0,.ref a,.int es.size 0,.int ep 0]∧Way w h a es ep t vs i first
theorem jB {α:Type} (es:Array (α×Value)) {idx:List Nat} (hp:idx.Perm (List.range es.size)):(idx.filterMap fun k=>(es[k]?).map (·.2)).Perm (es.toList.map (·.2)):=by
 refine (hp.filterMap _).trans (List.Perm.of_eq ?_)
 have:∀l:List (α×Value),(List.range l.length).filterMap (fun k=>(l[k]?).map (·.2))=l.map (·.2):=by
  intro l
  have h1:(List.range l.length).filterMap (fun k=>(l[k]?).map (·.2))=((List.range l.length).filterMap fun k=>l[k]?).map (·.2):=by
   rw [List.map_filterMap]
  rw [h1,List.filterMap_getElem?_range_length]
 have h2:=this es.toList
 simpa using h2
theorem Way.perm {w:World} {h:Heap} {a:Addr} {es:Array (Int×Value)} {ep:Nat} {t:SetTable} {vs:List Value} {i:Nat} {f:Value} (x:Way w h a es ep t vs i f):vs.Perm (es.toList.map (·.2)):=by
 cases x with
 | drawn ho _ hd hp hv=>subst hv;exact jB es hp
 | text ht hv=>subst hv;exact (kM _ es).map _
 | one ht hz hl hs hv=>subst hv;exact .refl _
theorem entry_set_iter':entryFor table "set.__iter__"=some Builtin.«frozenset.__iter__»:=entryFor_alias (id':="frozenset.__iter__") (by kernel_rfl) rfl (by decide+kernel) (by kernel_rfl)
theorem bK:Slot "set_iterator" "__next__" "set_iterator.__next__":=.of (owner:="set_iterator") (n:="__next__") (by rw [typeLookup_type,builtinLookup_eq_fast];kernel_rfl) (by decide+kernel) (by decide+kernel) (by decide+kernel) (by first | exact .inl (by decide+kernel) | exact .inr (by decide+kernel)) (by rw [isSubtype_type];kernel_rfl)
theorem fC:entryFor table "set_iterator.__next__"=some Builtin.«set_iterator.__next__»:=entryFor_of_fast (by kernel_rfl)
theorem gH (a:Value):argsOk "set_iterator.__next__" ⟨[a],[]⟩:=by unfold argsOk;kernel_rfl
theorem wpAny_of_eq' {M:Model} {A:Around} {E:Value→Shared→Prop} {s:Shared} {α:Type} {m m':Sem α} {Q:α→Shared→Prop} (e:m=m') (h:wpAny M A m' Q E s):wpAny M A m Q E s:=e ▸ h
section
variable {P:Program} {w:World} {A:Around} {E:Value→Shared→Prop} {s:Shared} {a:Addr} {ks:List Str}
theorem bw.type (h:bw P w s.heap a ks):s.TypeIs (.ref a) "set":=let ⟨_,o,_,_,_,e,x,_⟩:=h;⟨o,e,x.1⟩
theorem sy {Q:Value→Shared→Prop} (hS:bw P w s.heap a ks)
  (h:∀h' d J es ep t vs,(∀b o,s.heap.get? b=some o→h'.get? b=some o)→s.heap.objs.size≤J→(vs.map strOf).Perm ks→(∀v∈vs,∃x u,v=.str x u)→SIt w h' J a es ep t vs 0→Q (.ref J) {s with heap:=h',drawn:=d}):
  wpAny (model P w) A (pyIter (.ref a)) Q E s:=by
 have hT:=hS.type
 obtain ⟨hn,ob,es,ep,t,hob,hex,hdt,hE⟩:=hS
 obtain ⟨h1,h2,h3,h4,h5,h6,h7⟩:=id hE
 have out:∀(h':Heap) (d:Drawn) (J:Addr) (vs:List Value) {f:Value},(∀b o,s.heap.get? b=some o→h'.get? b=some o)→s.heap.objs.size≤J→(∃o,h'.get? J=some o∧o.cls=.type "set_iterator"∧o.data=.fields #[f,.int 0 0,.ref a,.int es.size 0,.int ep 0])→Way w h' a es ep t vs 0 f→Q (.ref J) {s with heap:=h',drawn:=d}:=
  fun h' d J vs f hk hJ ⟨o,e1,e2,e3⟩ wy=>by
   have hp:=wy.perm
   refine h h' d J es ep t vs hk hJ ((hp.map strOf).trans (by rw [List.map_map];exact h3)) (fun v hv=>?_) ⟨⟨ob,hk _ _ hob,hdt⟩,h5,o,f,e1,e2,e3,wy⟩
   obtain ⟨e,he,rfl⟩:=List.mem_map.mp (hp.mem_iff.mp hv)
   exact h2 e he
 refine wpAny_pyIter_slot hT F.slot_set_iter (wpAny_call_entry F.slot_set_iter hT entry_set_iter' ?_ (F.args_set_iter_1 _))
 unfold Builtin.«frozenset.__iter__» Builtin.Frozenset.slot0 slotArgs Builtin.Frozenset.sizeOf Builtin.Frozenset.addrOf
 simp only [List.isEmpty_nil,Bool.not_true,Bool.false_eq_true,↓reduceIte,bind_assoc,List.length_nil,bne_self_eq_false,pure_bind]
 refine wpAny_bind (wpAny_setEntries_of hob hdt h5 ?_)
 unfold setDrawn setsByText
 simp only [bind_assoc]
 refine wpAny_bind (wpAny_setState_of hob hdt h5 ?_)
 dsimp only
 refine wpAny_bind (wpAny_askSetting ?_)
 simp only [pure_bind]
 cases hb:(!(model P w).w.params.followText "set-order"&&(!t.plain&&decide (es.size > 1))) with
 | true=>
  refine wpAny_of_eq' (if_pos hb) ?_
  refine wpAny_bind (pI _ _ _ _ (by simp) fun idx d hp=>wpAny_bind (wpAny_newTuple ?_ (by rw [List.length_map,hp.length_eq,List.length_range];exact fits_of_scanBound h4)))
  have k1:∀(o1:Obj) b o,s.heap.get? b=some o→(s.heap.push o1).get? b=some o:=fun o1 b o e=>Heap.get?_push_of_some _ e
  refine wpAny_bind (wpAny_setEpoch_of (k1 _ _ _ hob) hdt h5 (wpAny_bind (wpAny_newObj_type (wpAny_pure ⟨_,rfl,"set_iterator",_,⟨_,Heap.get?_push_size _ rfl,rfl⟩,bK.lookup,?_⟩))))
  exact out _ d _ _ (fun b o e=>Heap.get?_push_of_some _ (Heap.get?_push_of_some _ e)) (by rw [Heap.size_push];exact Nat.le_succ _) ⟨_,Heap.get?_push_size _ rfl,rfl,rfl⟩ (.drawn (Heap.get?_push_of_some _ (Heap.get?_push_size _ rfl)) rfl rfl hp rfl)
 | false=>
  refine wpAny_of_eq' (if_neg fun z=>Bool.noConfusion (hb.symm.trans z)) ?_
  refine wpAny_bind (wpAny_setEpoch_of hob hdt h5 (wpAny_bind (wpAny_newObj_type (wpAny_pure ⟨_,rfl,"set_iterator",_,⟨_,Heap.get?_push_size _ rfl,rfl⟩,bK.lookup,?_⟩))))
  have hb':(!w.params.followText "set-order"&&(!t.plain&&decide (es.size > 1)))=false:=hb
  cases ht:w.params.followText "set-order" with
  | true=>exact out _ s.drawn _ _ (fun b o e=>Heap.get?_push_of_some _ e) (Nat.le_refl _) ⟨_,Heap.get?_push_size _ rfl,rfl,rfl⟩ (.text ht rfl)
  | false=>
   have hz:es.size≤1:=by
    rw [ht] at hb'
    by_cases z:es.size=0
    ·omega
    ·rw [h7 z] at hb'
     simpa using hb'
   exact out _ s.drawn _ _ (fun b o e=>Heap.get?_push_of_some _ e) (Nat.le_refl _) ⟨_,Heap.get?_push_size _ rfl,rfl,rfl⟩ (.one (slot:=0) ht hz (by rw [h6,ht];rfl) rfl rfl)
theorem mw {J:Addr} {o:Obj} {fs:Array Value} {k:Nat} {x:Value} {Q:Unit→Shared→Prop} {M:Model} (ho:s.heap.get? J=some o) (hd:o.data=.fields fs) (hk:k < fs.size)
  (h:∀h' o',(∀b u,b≠J→s.heap.get? b=some u→h'.get? b=some u)→h'.get? J=some o'→o'.cls=o.cls→o'.data=.fields (fs.setIfInBounds k x)→Q () {s with heap:=h'}):wpAny M A (setField (.ref J) k x) Q E s:=by
 refine wpAny_setField ho hd hk (h _ _ (fun b u hb e=>(Heap.get?_update_other _ _ (Ne.symm hb)).trans e) (Heap.get?_update_self _ ho (Obj.isFreed_of_fields (Obj.data_mapFields hd _))) (Obj.cls_mapFields ..) ?_)
 rw [Obj.data_mapFields hd]
theorem qF {ob:Obj} {es:Array (Int×Value)} {ep:Nat} {t:SetTable} {Q:Array (Int×Value)→Shared→Prop} (hob:s.heap.get? a=some ob) (hdt:ob.data=.set es ep t) (hf:t.fits es.size=true) (ht:w.params.followText "set-order"=true)
  (h:Q (pickOrder (w.params.setOrder a ep) es) s):wpAny (model P w) A (setWalk a) Q E s:=by
 unfold setWalk setsByText
 refine wpAny_bind (wpAny_setState_of hob hdt hf ?_)
 dsimp only
 refine wpAny_bind (wpAny_bind (wpAny_askSetting (wpAny_pure ?_)))
 rw [if_pos (show (model P w).w.params.followText "set-order"=true from ht)]
 exact wpAny_bind (wpAny_askSetting (wpAny_pure h))
theorem kP {ob:Obj} {es:Array (Int×Value)} {ep:Nat} {t:SetTable} {Q:Option (Value×Nat)→Shared→Prop} {k i:Nat} (hob:s.heap.get? a=some ob) (hdt:ob.data=.set es ep t) (hf:t.fits es.size=true) (ht:w.params.followText "set-order"=true)
  (h:Q (((pickOrder (w.params.setOrder a ep) es)[i]?).map fun e=>(e.2,k)) s):wpAny (model P w) A (setNext a k i ep) Q E s:=by
 unfold setNext setsByText
 refine wpAny_bind (wpAny_setState_of hob hdt hf ?_)
 dsimp only
 refine wpAny_bind (wpAny_bind (wpAny_askSetting (wpAny_pure ?_)))
 rw [if_pos (show (model P w).w.params.followText "set-order"=true from ht)]
 simp only [bne_self_eq_false,Bool.false_eq_true,↓reduceIte]
 exact wpAny_bind (qF hob hdt hf ht (wpAny_pure h))
theorem nM {ob:Obj} {es:Array (Int×Value)} {ep:Nat} {t:SetTable} {Q:Option (Value×Nat)→Shared→Prop} {k i:Nat} (hob:s.heap.get? a=some ob) (hdt:ob.data=.set es ep t) (hf:t.fits es.size=true) (ht:w.params.followText "set-order"=false) (hz:es.size≤1) (hl:t.led=true)
  (h:Q (match es[SetTable.below t.place k]?,t.place[SetTable.below t.place k]? with | some (_,x),some j=>some (x,j+1) | _,_=>none) s):wpAny (model P w) A (setNext a k i ep) Q E s:=by
 unfold setNext setsByText
 refine wpAny_bind (wpAny_setState_of hob hdt hf ?_)
 dsimp only
 refine wpAny_bind (wpAny_bind (wpAny_askSetting (wpAny_pure ?_)))
 rw [if_neg (show ¬(model P w).w.params.followText "set-order"=true by rw [show (model P w).w.params.followText "set-order"=false from ht];simp)]
 have hdr:¬(!t.plain&&decide (es.size > 1))=true:=by
  rw [decide_eq_false (by omega),Bool.and_false];simp
 refine wpAny_of_eq' (if_neg hdr) ?_
 refine wpAny_bind (wpAny_of_eq' (m':=pure ()) (if_neg (show ¬(!t.led&&!es.isEmpty)=true by rw [hl];simp)) (wpAny_pure ?_))
 exact wpAny_pure h
theorem ue (xs:Array Nat) (hx:xs.size=1):xs[0]?=some (xs.getD 0 0):=by
 obtain ⟨l⟩:=xs
 match l,hx with
 | [y],_=>rfl
theorem qC (xs:Array Nat) (hx:xs.size≤1):SetTable.below xs 0=0:=by
 obtain ⟨l⟩:=xs
 match l,hx with
 | [],_=>rfl
 | [y],_=>rfl
theorem below_1 (xs:Array Nat) (hx:xs.size=1):SetTable.below xs (xs.getD 0 0+1)=1:=by
 obtain ⟨l⟩:=xs
 match l,hx with
 | [y],_=>
  show SetTable.below.go #[y] (y+1) 1 0 1=1
  unfold SetTable.below.go
  rw [if_pos (by decide)]
  dsimp only
  rw [if_pos (show (#[y]:Array Nat).getD 0 (y+1) < y+1 from Nat.lt_succ_self y)]
  rfl
theorem sr {J:Addr} {es:Array (Int×Value)} {ep:Nat} {t:SetTable} {vs:List Value} {i:Nat} {v:Value} {Q:Option Value→Shared→Prop} (hS:SIt w s.heap J a es ep t vs i) (hv:vs[i]?=some v) (hne:J≠a)
  (h:∀h',(∀b o,b≠J→s.heap.get? b=some o→h'.get? b=some o)→SIt w h' J a es ep t vs (i+1)→Q (some v) {s with heap:=h'}):wpAny (model P w) A (pyNext (.ref J)) Q E s:=by
 obtain ⟨⟨ob,hob,hdt⟩,hf,o,first,ho,hc,hd,wy⟩:=hS
 have hT:s.TypeIs (.ref J) "set_iterator":=⟨o,ho,hc⟩
 unfold pyNext
 refine wpAny_bind (wpAny_attempt (wpAny_callSpecial?_slot (name:=Str.ofString "__next__") hT bK (wpAny_call_entry bK hT fC ?_ (gH _))))
 unfold Builtin.«set_iterator.__next__» slotArgs
 simp only [List.isEmpty_nil,Bool.not_true,Bool.false_eq_true,↓reduceIte,bind_assoc,List.length_nil,bne_self_eq_false,pure_bind]
 refine wpAny_bind (wpAny_fieldsOf ho hd ?_)
 dsimp only
 refine wpAny_bind (wpAny_setEntries_of hob hdt hf ?_)
 simp only [bne_self_eq_false,Bool.false_eq_true,↓reduceIte]
 cases wy with
 | @drawn T idx oT nT hoT hcT hdT hp hvs=>
  have hTJ:T≠J:=fun z=>by subst z;rw [ho] at hoT;cases hoT;rw [hd] at hdT;cases hdT
  refine wpAny_bind (m:=seqItems? (.ref T)) (wpAny_seqItems hoT hdT ?_)
  dsimp only
  have hlen:idx.length=es.size:=by rw [hp.length_eq,List.length_range]
  have hall:∀k∈idx,∃e,es[k]?=some e:=fun k hk=>by
   have:k < es.size:=by have:=hp.mem_iff.mp hk;simpa using this
   exact ⟨_,Array.getElem?_eq_getElem this⟩
  have hget:∀(l:List Nat) (i:Nat) (v:Value),(∀k∈l,∃e,es[k]?=some e)→(l.filterMap fun k=>(es[k]?).map (·.2))[i]?=some v→∃k e,l[i]?=some k∧es[k]?=some e∧e.2=v:=by
   intro l
   induction l with
   | nil=>intro i v _ h;simp at h
   | cons k r ih=>
    intro i v ha h
    obtain ⟨e,he⟩:=ha k List.mem_cons_self
    rw [List.filterMap_cons,he] at h
    dsimp only [Option.map] at h
    cases i with
    | zero=>rw [List.getElem?_cons_zero] at h;cases h;exact ⟨k,e,rfl,he,rfl⟩
    | succ j=>
     rw [List.getElem?_cons_succ] at h
     obtain ⟨k',e',a1,a2,a3⟩:=ih j v (fun x hx=>ha x (List.mem_cons_of_mem _ hx)) h
     exact ⟨k',e',by rw [List.getElem?_cons_succ];exact a1,a2,a3⟩
  rw [hvs] at hv
  obtain ⟨k,e,e1,e2,rfl⟩:=hget idx i v hall hv
  have e3:((idx.map fun (k:Nat)=>rawInt (k:Int)).toArray)[(i:Int).toNat]?=some (rawInt (k:Int)):=by
   rw [Int.toNat_natCast,List.getElem?_toArray,List.getElem?_map,e1];rfl
  rw [e3]
  show wpAny _ _ (setNextDrawn a (k:Int).toNat (ep:Int).toNat >>=_) _ _ s
  rw [Int.toNat_natCast,Int.toNat_natCast]
  unfold setNextDrawn
  simp only [bind_assoc]
  refine wpAny_bind (wpAny_setState_of hob hdt hf ?_)
  dsimp only
  simp only [bne_self_eq_false,Bool.false_eq_true,↓reduceIte]
  rw [e2]
  simp only [pure_bind]
  refine wpAny_bind (mw ho hd (by simp) fun h' o' hk ho' hc' hd'=>wpAny_pure ⟨_,rfl,wpAny_pure (h h' hk ?_)⟩)
  exact ⟨⟨ob,hk _ _ (Ne.symm hne) hob,hdt⟩,hf,o',.ref T,ho',hc'.trans hc,hd',.drawn (hk _ _ hTJ hoT) hcT hdT hp (by rw [hvs])⟩
 | text ht hvs=>
  show wpAny _ _ (setNext a (0:Int).toNat (i:Int).toNat (ep:Int).toNat >>=_) _ _ s
  rw [Int.toNat_natCast,Int.toNat_natCast]
  refine wpAny_bind (kP hob hdt hf ht ?_)
  have hv':=hv
  rw [hvs,List.getElem?_map] at hv'
  obtain ⟨e,e1,e2⟩:=Option.map_eq_some_iff.mp hv'
  rw [Array.getElem?_toList] at e1
  rw [e1]
  dsimp only [Option.map]
  refine wpAny_bind (mw ho hd (by simp) fun h1 o1 hk1 ho1 hc1 hd1=>wpAny_bind (mw ho1 hd1 (by simp) fun h' o' hk ho' hc' hd'=>wpAny_pure ⟨_,rfl,wpAny_pure ?_⟩))
  rw [e2]
  refine h h' (fun b u hb z=>hk b u hb (hk1 b u hb z)) ⟨⟨ob,hk _ _ (Ne.symm hne) (hk1 _ _ (Ne.symm hne) hob),hdt⟩,hf,o',_,ho',(hc'.trans hc1).trans hc,hd',.text ht hvs⟩
 | @one slot ht hz hl hs hvs=>
  show wpAny _ _ (setNext a (slot:Int).toNat (i:Int).toNat (ep:Int).toNat >>=_) _ _ s
  rw [Int.toNat_natCast,Int.toNat_natCast,Int.toNat_natCast]
  have hlt:i < es.size:=by
   have:=(List.getElem?_eq_some_iff.mp hv).1
   rw [hvs] at this
   simpa using this
  have h0:i=0:=by omega
  have h1:es.size=1:=by omega
  subst h0
  have hs0:slot=0:=by simpa using hs
  subst hs0
  have hpz:t.place.size=1:=by
   unfold SetTable.fits at hf
   rw [Bool.and_eq_true,beq_iff_eq] at hf
   omega
  refine wpAny_bind (nM hob hdt hf ht hz hl ?_)
  rw [qC _ (by omega),ue _ hpz]
  have hv':=hv
  rw [hvs,List.getElem?_map] at hv'
  obtain ⟨e,e1,e2⟩:=Option.map_eq_some_iff.mp hv'
  rw [Array.getElem?_toList] at e1
  obtain ⟨eh,ev⟩:=e
  rw [e1]
  dsimp only at e2 ⊢
  refine wpAny_bind (mw ho hd (by simp) fun h1 o1 hk1 ho1 hc1 hd1=>wpAny_bind (mw ho1 hd1 (by simp) fun h' o' hk ho' hc' hd'=>wpAny_pure ⟨_,rfl,wpAny_pure ?_⟩))
  rw [e2]
  refine h h' (fun b u hb z=>hk b u hb (hk1 b u hb z)) ⟨⟨ob,hk _ _ (Ne.symm hne) (hk1 _ _ (Ne.symm hne) hob),hdt⟩,hf,o',_,ho',(hc'.trans hc1).trans hc,hd',.one (slot:=t.place.getD 0 0+1) ht hz hl rfl hvs⟩
theorem lJ {J:Addr} {Q:Option Value→Shared→Prop} (hh:A.handled=none) (hQ:∀h',(∀b o,s.heap.get? b=some o→h'.get? b=some o)→Q none {s with heap:=h'}):
  wpAny (model P w) A.in1 (do let x←newExc (.type "StopIteration") [];raiseNew x:Sem Fin) (fun fin s'=>∃v,fin=Fin.done (Flow.ret v)∧wpAny (model P w) A (pure (some v)) Q E s')
   (fun e s'=>wpAny (model P w) A (do let b←isInstance e (.type "StopIteration");if b=true then pure none else throw e) Q E s') s:=by
 refine wpAny_bind ?_
 simp only [newExc,newTuple];refine wpAny_bind (wpAny_newObj_type ?_ (by size_fits))
 refine wpAny_bind (m:=firstArgMember _ _) (wpAny_of_eq (a:=Value.none) (by first | rfl | (simp only [firstArgMember];rfl)) (wpAny_newObj_type ?_ (by size_fits)))
 simp only [raiseNew];refine wpAny_bind (wpAny_handled ?_)
 rw [show A.in1.handled=none from hh]
 refine wpAny_bind (wpAny_pure (wpAny_throw ?_))
 refine wpAny_bind (wpAny_isInstance (T:="StopIteration") (b:=true) (show Shared.TypeIs _ (.ref _) _ from ⟨_,Heap.get?_push_size _ rfl,rfl⟩) isSubtype_stop ?_)
 exact wpAny_pure (hQ _ fun b o e=>Heap.get?_push_of_some _ (Heap.get?_push_of_some _ e))
theorem u3 {J:Addr} {es:Array (Int×Value)} {ep:Nat} {t:SetTable} {vs:List Value} {Q:Option Value→Shared→Prop} (hh:A.handled=none) (hS:SIt w s.heap J a es ep t vs vs.length)
  (h:∀h',(∀b o,b≠J→s.heap.get? b=some o→h'.get? b=some o)→Q none {s with heap:=h'}):wpAny (model P w) A (pyNext (.ref J)) Q E s:=by
 obtain ⟨⟨ob,hob,hdt⟩,hf,o,first,ho,hc,hd,wy⟩:=hS
 have hT:s.TypeIs (.ref J) "set_iterator":=⟨o,ho,hc⟩
 have hlen:vs.length=es.size:=by have:=wy.perm.length_eq;simpa using this
 unfold pyNext
 refine wpAny_bind (wpAny_attempt (wpAny_callSpecial?_slot (name:=Str.ofString "__next__") hT bK (wpAny_call_entry bK hT fC ?_ (gH _))))
 unfold Builtin.«set_iterator.__next__» slotArgs
 simp only [List.isEmpty_nil,Bool.not_true,Bool.false_eq_true,↓reduceIte,bind_assoc,List.length_nil,bne_self_eq_false,pure_bind]
 refine wpAny_bind (wpAny_fieldsOf ho hd ?_)
 dsimp only
 refine wpAny_bind (wpAny_setEntries_of hob hdt hf ?_)
 simp only [bne_self_eq_false,Bool.false_eq_true,↓reduceIte]
 cases wy with
 | @drawn T idx oT nT hoT hcT hdT hp hvs=>
  refine wpAny_bind (m:=seqItems? (.ref T)) (wpAny_seqItems hoT hdT ?_)
  dsimp only
  have e3:((idx.map fun (k:Nat)=>rawInt (k:Int)).toArray)[(vs.length:Int).toNat]?=none:=by
   rw [Int.toNat_natCast,List.getElem?_toArray,List.getElem?_map,List.getElem?_eq_none (by rw [hp.length_eq,List.length_range,hlen];exact Nat.le_refl _)];rfl
  rw [e3]
  refine wpAny_bind (mw ho hd (by simp) fun h1 o1 hk1 ho1 hc1 hd1=>wpAny_bind (mw ho1 hd1 (by simp) fun h2 o2 hk2 ho2 hc2 hd2=>?_))
  exact lJ (J:=J) hh fun h' hk=>h h' fun b u hb z=>hk b u (hk2 b u hb (hk1 b u hb z))
 | text ht hvs=>
  show wpAny _ _ (setNext a (0:Int).toNat (vs.length:Int).toNat (ep:Int).toNat >>=_) _ _ s
  rw [Int.toNat_natCast,Int.toNat_natCast]
  refine wpAny_bind (kP hob hdt hf ht ?_)
  have hz:(pickOrder (w.params.setOrder a ep) es).size=es.size:=by have:=(kM (w.params.setOrder a ep) es).length_eq;simpa using this
  rw [Array.getElem?_eq_none (by rw [hz,hlen];exact Nat.le_refl _)]
  dsimp only [Option.map]
  refine wpAny_bind (mw ho hd (by simp) fun h2 o2 hk2 ho2 hc2 hd2=>?_)
  exact lJ (J:=J) hh fun h' hk=>h h' fun b u hb z=>hk b u (hk2 b u hb z)
 | @one slot ht hz hl hs hvs=>
  show wpAny _ _ (setNext a (slot:Int).toNat (vs.length:Int).toNat (ep:Int).toNat >>=_) _ _ s
  rw [Int.toNat_natCast,Int.toNat_natCast,Int.toNat_natCast]
  refine wpAny_bind (nM hob hdt hf ht hz hl ?_)
  have hpz:t.place.size=es.size:=by
   unfold SetTable.fits at hf
   rw [Bool.and_eq_true,beq_iff_eq] at hf
   exact hf.1
  have hnone:es[SetTable.below t.place slot]?=none:=by
   refine Array.getElem?_eq_none ?_
   rw [hs]
   by_cases z:vs.length=0
   ·rw [if_pos z,qC _ (by omega)];omega
   ·rw [if_neg z,below_1 _ (by omega)];omega
  rw [hnone]
  dsimp only
  refine wpAny_bind (mw ho hd (by simp) fun h2 o2 hk2 ho2 hc2 hd2=>?_)
  exact lJ (J:=J) hh fun h' hk=>h h' fun b u hb z=>hk b u (hk2 b u hb z)
end
end L2
namespace L2
open PySem PySem.Spec PyProof.Rows
section
variable {P:Program} {w:World} {A:Around} {E:Value→Shared→Prop} {s:Shared} {a:Addr} {ks:List Str}
theorem SIt.off {h h':Heap} {J S:Addr} {es:Array (Int×Value)} {ep:Nat} {t:SetTable} {vs:List Value} {i:Nat} {oS:Obj} (x:SIt w h J a es ep t vs i) (hS:h.get? S=some oS) (hc:oS.cls=.type "list") (hj:S≠J) (ha:S≠a)
  (k:∀b o,b≠S→h.get? b=some o→h'.get? b=some o):SIt w h' J a es ep t vs i:=by
 obtain ⟨⟨ob,hob,hdt⟩,hf,o,first,ho,hcc,hd,wy⟩:=x
 refine ⟨⟨ob,k _ _ (Ne.symm ha) hob,hdt⟩,hf,o,first,k _ _ (Ne.symm hj) ho,hcc,hd,?_⟩
 cases wy with
 | @drawn T idx oT nT hoT hcT hdT hp hvs=>
  have hTS:T≠S:=fun z=>by subst z;rw [hS] at hoT;cases hoT;rw [hc] at hcT;exact absurd hcT (by decide)
  exact .drawn (k _ _ hTS hoT) hcT hdT hp hvs
 | text ht hvs=>exact .text ht hvs
 | one ht hz hl hs hvs=>exact .one ht hz hl hs hvs
theorem sx (hh:A.handled=none) {J S:Addr} {es:Array (Int×Value)} {ep:Nat} {t:SetTable} {vs:List Value} (hj:S≠J) (ha:S≠a) (hja:J≠a) (hz:vs.length≤sizeLine) {R:Result→Shared→Prop}:
  ∀(m i:Nat) (s:Shared) (c:Nat),vs.length-i=m→i≤vs.length→SIt w s.heap J a es ep t vs i→s.heap.get? S=some {cls:=.type "list",dict:=none,data:=.seq (vs.take i).toArray c,slots:=#[]}→
  (∀h' c',(∀b o,b≠S→b≠J→s.heap.get? b=some o→h'.get? b=some o)→h'.get? S=some {cls:=.type "list",dict:=none,data:=.seq vs.toArray c',slots:=#[]}→R (.ok (.ret (.ref S))) {s with heap:=h'})→
  codeAny (model P w) A (.builtin "list.extend.loop" ⟨[.ref S,.ref J,.ref S],[]⟩) R s:=by
 intro m
 induction m with
 | zero=>
  intro i s c hm hi st hS hR
  have hin:i=vs.length:=by omega
  subst hin
  refine codeAny_builtin F.entry_extend_loop ?_
  rw [Around.under_plainId F.plain_extend_loop _]
  show wpAny _ A.in1 (pyNext (.ref J) >>=_) _ _ s
  refine wpAny_bind (u3 (A:=A.in1) hh st fun h' hk=>wpAny_pure (hR h' c (fun b o _ hb e=>hk b o hb e) ?_))
  rw [List.take_length] at hS
  exact hk _ _ hj hS
 | succ m ih=>
  intro i s c hm hi st hS hR
  have hlt:i < vs.length:=by omega
  have hv:vs[i]?=some vs[i]:=List.getElem?_eq_getElem hlt
  refine codeAny_builtin F.entry_extend_loop ?_
  rw [Around.under_plainId F.plain_extend_loop _]
  show wpAny _ A.in1 (pyNext (.ref J) >>=_) _ _ s
  refine wpAny_bind (sr (A:=A.in1) st hv hja fun h1 hk1 st1=>?_)
  have hS1:=hk1 _ _ hj hS
  show wpAny _ A.in1 (updateSeq S (·.push vs[i]) >>=_) _ _ _
  have hlen:(vs.take i).toArray.size=i:=by rw [List.size_toArray,List.length_take];omega
  refine wpAny_bind (wpAny_updateSeq (s:={s with heap:=h1}) hS1 rfl (wpAny_pure ⟨plainId_quiet F.plain_extend_loop _,?_⟩) (by rw [hlen];omega) (by show ((vs.take i).toArray.push vs[i]).size≤sizeLine+1;rw [Array.size_push,hlen];omega))
  have hS2:=Heap.get?_update_self (Obj.mapSeq (·.push vs[i])) hS1 rfl
  have hk2:∀b o,b≠S→h1.get? b=some o→(h1.update S (Obj.mapSeq (·.push vs[i]))).get? b=some o:=fun b o hb e=>(Heap.get?_update_other _ _ (Ne.symm hb)).trans e
  have hpush:(vs.take i).toArray.push vs[i]=(vs.take (i+1)).toArray:=by
   rw [List.take_succ,hv]
   simp
  have hS3:∃c',(h1.update S (Obj.mapSeq (·.push vs[i]))).get? S=some {cls:=.type "list",dict:=none,data:=.seq (vs.take (i+1)).toArray c',slots:=#[]}:=by
   rw [←hpush]
   exact ⟨_,hS2⟩
  obtain ⟨c3,hS3⟩:=hS3
  exact ih (i+1) {s with heap:=h1.update S (Obj.mapSeq (·.push vs[i]))} c3 (by omega) hlt (st1.off hS1 rfl hj ha hk2) hS3 fun h' c' hk hS'=>hR h' c' (fun b o hb hb' e=>hk b o hb hb' (hk2 b o hb (hk1 b o hb' e))) hS'
theorem jW:splitId "set.__len__"=some ("set","__len__"):=by kernel_rfl
theorem sub_set_set:isSubtype (.type "set") (.type "set")=pure true:=by rw [isSubtype_type];kernel_rfl
theorem i5:typeLookup (.type "set") (Str.ofString "__len__")=pure (some (.builtin "set.__len__")):=F.slot_set_len.lookup
theorem n5 (hh:A.handled=none) (hS:bw P w s.heap a ks) {Q:List Value→Shared→Prop}
  (h:∀h' d vs,s.heap.objs.size≤h'.objs.size→(∀b o,s.heap.get? b=some o→h'.get? b=some o)→(vs.map strOf).Perm ks→(∀v∈vs,∃x u,v=.str x u)→Q vs {s with heap:=h',drawn:=d}):wpAny (model P w) A (collect (.ref a)) Q E s:=by
 have hT:=hS.type
 have hlt:a < s.heap.objs.size:=let ⟨_,o,_,_,_,e,_⟩:=hS;Heap.lt_size e
 have hks:ks.length≤sizeLine:=by
  obtain ⟨_,o,es,ep,t,e,_,_,hE⟩:=hS
  have:=hE.len
  exact fits_of_scanBound (by rw [←this];exact hE.2.2.2.1)
 unfold collect
 refine wpAny_bind (wpAny_runValue (codeAny_builtin F.entry_proto_collect ?_))
 rw [Around.under_plainId F.plain_proto_collect _]
 show wpAny _ A.in1 (newList [] >>=fun l=>again (.builtin "list.__iadd__" ⟨[l,.ref a],[]⟩)) _ _ s
 refine wpAny_bind (wpAny_newObj_type (wpAny_pure ⟨plainId_quiet F.plain_list_iadd _,codeAny_builtin F.entry_list_iadd ?_⟩))
 rw [Around.under_plainId F.plain_list_iadd _]
 generalize hoS:({cls:=.type "list",data:=.seq ([]:List Value).toArray}:Obj)=oS
 have k0:∀b o,s.heap.get? b=some o→(s.heap.push oS).get? b=some o:=fun b o e=>Heap.get?_push_of_some _ e
 have hS1:bw P w (s.heap.push oS) a ks:=let ⟨n,o,es,ep,t,e,r⟩:=hS;⟨n,o,es,ep,t,k0 _ _ e,r⟩
 have hSa:s.heap.objs.size≠a:=(Nat.ne_of_lt hlt).symm
 have hgS:(s.heap.push oS).get? s.heap.objs.size=some oS:=Heap.get?_push_size _ (by rw [←hoS];rfl)
 show wpAny _ A.in1 (Builtin.List.listExtendWith (.ref s.heap.objs.size) (.ref a) (.ref s.heap.objs.size)) _ _ {s with heap:=s.heap.push oS}
 unfold Builtin.List.listExtendWith
 refine wpAny_bind (wpAny_typeOf (s:={s with heap:=s.heap.push oS}) (bw.type (s:={s with heap:=s.heap.push oS}) hS1) ?_)
 have e1:Builtin.List.listSameRef (.ref s.heap.objs.size) (.ref a)=false:=by simp [Builtin.List.listSameRef,hSa]
 have e2:(Value.type "set"==Value.type "list")=false:=by decide
 have e3:(Value.type "set"==Value.type "tuple")=false:=by decide
 simp only [e1,e2,e3,Bool.or_false,Bool.false_eq_true,if_false]
 refine wpAny_bind (sy (s:={s with heap:=s.heap.push oS}) hS1 fun h1 d J es ep t vs k1 hJ hp hst st=>?_)
 refine wpAny_bind (wpAny_holding ?_)
 have hS2:bw P w h1 a ks:=let ⟨n,o,es,ep,t,e,r⟩:=hS1;⟨n,o,es,ep,t,k1 _ _ e,r⟩
 have hT2:Shared.TypeIs {s with heap:=h1,drawn:=d} (.ref a) "set":=bw.type (s:={s with heap:=h1,drawn:=d}) hS2
 unfold Builtin.List.listLengthHint
 refine wpAny_bind (wpAny_specialOf hT2 i5 ?_)
 dsimp only
 rw [jW]
 dsimp only
 refine wpAny_bind (wpAny_isInstance hT2 sub_set_set ?_)
 simp only [Bool.not_true,Bool.false_eq_true,if_false]
 refine wpAny_of_eq' (if_pos (by decide+kernel)) ?_
 refine wpAny_bind (wpAny_typeOf hT2 (wpAny_pure ?_))
 have hgS1:h1.get? s.heap.objs.size=some {cls:=.type "list",data:=.seq ([]:List Value).toArray}:=by rw [hoS];exact k1 _ _ hgS
 have hJs:s.heap.objs.size < J:=by
  have:=hJ
  rw [show (s.heap.push oS).objs.size=s.heap.objs.size+1 from Heap.size_push _ _] at this
  exact this
 have hlen:vs.length=ks.length:=by have:=hp.length_eq;simpa using this
 refine wpAny_of_eq' (if_pos (by decide+kernel)) (wpAny_bind (wpAny_rule (wpAny_bind ?_)))
 show wpAny _ A.in1 (updateSeq s.heap.objs.size (·.push .none) >>=fun _=>updateSeq s.heap.objs.size (·.pop)) _ _ _
 refine wpAny_bind (wpAny_updateSeq (s:={s with heap:=h1,drawn:=d}) hgS1 rfl ?_)
 have hgS2:=Heap.get?_update_self (Obj.mapSeq (·.push Value.none)) hgS1 rfl
 refine wpAny_updateSeq hgS2 rfl ?_
 have hgS3:=Heap.get?_update_self (Obj.mapSeq (·.pop)) hgS2 rfl
 have koff:∀b o,b≠s.heap.objs.size→h1.get? b=some o→((h1.update s.heap.objs.size (Obj.mapSeq (·.push Value.none))).update s.heap.objs.size (Obj.mapSeq (·.pop))).get? b=some o:=
  fun b o hb e=>(Heap.get?_update_other _ _ (Ne.symm hb)).trans ((Heap.get?_update_other _ _ (Ne.symm hb)).trans e)
 have hgS4:∃c',((h1.update s.heap.objs.size (Obj.mapSeq (·.push Value.none))).update s.heap.objs.size (Obj.mapSeq (·.pop))).get? s.heap.objs.size=some {cls:=.type "list",dict:=none,data:=.seq (vs.take 0).toArray c',slots:=#[]}:=⟨_,hgS3⟩
 obtain ⟨c4,hgS4⟩:=hgS4
 refine wpAny_pure ⟨plainId_quiet F.plain_extend_loop _,sx (A:=A) hh (Nat.ne_of_lt hJs) hSa (fun z=>?_) (by rw [hlen];exact hks) vs.length 0 _ c4 rfl (Nat.zero_le _) (st.off hgS1 rfl (Nat.ne_of_lt hJs) hSa koff) hgS4 fun h' c' hk hS'=>?_⟩
 ·rw [z] at hJs
  exact Nat.lt_asymm hJs hlt
 ·show wpAny _ A (load s.heap.objs.size >>=_) _ _ _
  refine wpAny_bind (wpAny_load hS' (wpAny_pure ?_))
  refine h h' d vs (Nat.le_of_lt (Heap.lt_size hS')) (fun b o e=>?_) hp hst
  have hb:b≠s.heap.objs.size:=Nat.ne_of_lt (Heap.lt_size e)
  exact hk b o hb (Nat.ne_of_lt (Nat.lt_trans (Heap.lt_size e) hJs)) (koff b o hb (k1 b o (k0 b o e)))
end
end L2
namespace L2
open PySem PySem.Spec PyProof.Rows
def leT (a b:Str):Bool:=!ltCps b.cps.toList a.cps.toList
theorem dW {a b:Str}:leT a b=true↔strKind.kle a.cps.toList b.cps.toList:=by
 unfold leT KeyOrd.kle
 rw [ltCps_eq]
 simp
theorem kT (a b c:Str) (h1:leT a b=true) (h2:leT b c=true):leT a c=true:=dW.mpr (KeyOrd.kle_trans (dW.mp h1) (dW.mp h2))
theorem rH (a b:Str):(leT a b||leT b a)=true:=by
 rw [Bool.or_eq_true]
 by_cases z:strKind.klt b.cps.toList a.cps.toList
 ·exact .inr (dW.mpr (KeyOrd.kle_of_klt z))
 ·exact .inl (dW.mpr (KeyOrd.kle_of_not_klt z))
theorem nV (a b:Str) (h1:leT a b=true) (h2:leT b a=true):a=b:=by
 have:=KeyOrd.kle_antisymm (dW.mp h1) (dW.mp h2)
 cases a;cases b
 congr 1
 exact Array.toList_inj.mp this
def bX (ks:List Str):List Str:=ks.mergeSort leT
theorem br (ks:List Str):(bX ks).Perm ks:=List.mergeSort_perm _ _
theorem dG (ks:List Str):(bX ks).Pairwise fun a b=>leT a b=true:=List.pairwise_mergeSort kT rH ks
theorem kK:∀(l:List Str) (p:Str),risingS p l=true→(p::l).Pairwise fun a b=>leT a b=true
 | [],p,_=>by simp
 | x::r,p,h=>by
  have h':(!ltCps x.cps.toList p.cps.toList&&risingS x r)=true:=h
  rw [Bool.and_eq_true] at h'
  have ih:=kK r x h'.2
  refine List.pairwise_cons.mpr ⟨fun y hy=>?_,ih⟩
  rcases List.mem_cons.mp hy with rfl | hy
  ·exact h'.1
  ·exact kT _ _ _ h'.1 ((List.pairwise_cons.mp ih).1 y hy)
theorem sQ {ss ks:List Str} (hp:ss.Perm ks) (h:sortedS ss=true):ss=bX ks:=by
 refine List.Perm.eq_of_pairwise (fun a b _ _=>nV a b) ?_ (dG ks) (hp.trans (br ks).symm)
 match ss,h with
 | [],_=>exact .nil
 | x::r,h=>exact kK r x h
section
variable {P:Program} {w:World} {A:Around} {E:Value→Shared→Prop} {s:Shared} {a:Addr} {ks:List Str}
theorem qQ {vs:List Value} {ss:List Str} {Q:Value→Shared→Prop} (hV:StrsAre vs ss) (h64:vs.length < 64)
  (h:∀h' n (out:Array Value),(∀b o,s.heap.get? b=some o→h'.get? b=some o)→h'.get? s.heap.objs.size=some (seqObj "list" out n)→StrsAre out.toList (bX ss)→Q (.ref s.heap.objs.size) {s with heap:=h'}):
  wpAny (model P w) A (do let l←newList vs;let _←holding [l] (call (.builtin "list.sort") [l] []);ret l) (fun fin s'=>∃v,fin=Fin.done (Flow.ret v)∧Q v s') E s:=by
 refine wpAny_bind (wpAny_newList ?_ (by rw [sizeLine_eq];omega))
 have hL:(s.heap.push (seqObj "list" vs.toArray 0)).get? s.heap.objs.size=some (seqObj "list" vs.toArray 0):=Heap.get?_push_size _ rfl
 show wpAny _ _ _ _ _ {s with heap:=s.heap.push (seqObj "list" vs.toArray 0)}
 refine wpAny_bind (wpAny_holding (wpAny_call_entry slot_list_sort ⟨_,hL,rfl⟩ entry_list_sort (list_sort_treeK (s:={s with heap:=s.heap.push (seqObj "list" vs.toArray 0)}) strKind_oneLt hL hV.keysOf (fun v₁ v₂ rest e=>keyKind_strs (by rw [←e];exact hV)) h64 fun st' hp hs=>⟨_,rfl,?_⟩) (args_list_sort _)))
 obtain ⟨ss',g1,g2,g3⟩:=sorted_out_str hV hp hs
 have:=sQ g2 g3
 subst this
 have hlt:s.heap.objs.size < (s.heap.push (seqObj "list" vs.toArray 0)).objs.size:=by rw [Heap.size_push];exact Nat.lt_succ_self _
 obtain ⟨n,hn⟩:=sortedHeap_at (vs:=vs) (out:=(arrOf st').map (·.2)) hL
 refine wpAny_pure ⟨_,rfl,h _ n _ (fun b o e=>?_) hn g1⟩
 have hb:=Heap.lt_size e
 rw [sortedHeap_old (Nat.ne_of_lt hb) (Nat.lt_trans hb hlt)]
 exact Heap.get?_push_of_some _ e
theorem oH (hh:A.handled=none) (hS:bw P w s.heap a ks) (h64:ks.length < 64) {Q:Value→Shared→Prop}
  (h:∀h' d l n (out:Array Value),(∀b o,s.heap.get? b=some o→h'.get? b=some o)→s.heap.objs.size≤l→h'.get? l=some (seqObj "list" out n)→StrsAre out.toList (bX ks)→Q (.ref l) {s with heap:=h',drawn:=d}):
  wpAny (model P w) A (call (.builtin "sorted") [.ref a]) Q E s:=by
 refine Calls.call_function_entry kind_sorted plain_sorted entry_sorted (args_sorted1 _) ?_
 unfold Builtin.«sorted»;refine wpAny_bind (m:=checkCount "sorted" 1 1 _) (wpAny_pure ?_)
 refine wpAny_bind (n5 (A:=A.in1) hh hS fun h1 d vs hsz k1 hp hst=>?_)
 have hV:=strsAre_map vs hst
 have hlen:vs.length=ks.length:=by have:=hp.length_eq;simpa using this
 have e:bX (vs.map strOf)=bX ks:=by
  refine List.Perm.eq_of_pairwise (fun a b _ _=>nV a b) (dG _) (dG ks) (((br _).trans hp).trans (br ks).symm)
 refine qQ (s:={s with heap:=h1,drawn:=d}) hV (by rw [hlen];exact h64) fun h' n out hk hl ho=>?_
 refine h h' d h1.objs.size n out (fun b o z=>hk b o (k1 b o z)) ?_ hl (e ▸ ho)
 exact hsz
end
end L2
namespace L2
open PySem PySem.Spec PyProof.Rows
theorem rj {X:Cx}:wV X newDict (fun _=>.dK []):=fun pins s σ H Q E I h=>by
 unfold newDict
 exact wpAny_newObj_type (h _ s.toks (I.laid (a:=s.heap.objs.size) (o:=.dK []) (t':=s.toks) (fun _ _ q=>Heap.get?_push_of_some _ q) (Nat.le_refl _) (fe s.heap I.big)))
def iK (P:Program) (w:World) (a:Addr) (ks:List Str):HO:=.ext fun h=>bw P w h a ks
theorem bw.iD {P:Program} {w:World} {h1 h2:Heap} {a:Addr} {ks:List Str} (x:bw P w h1 a ks) (k:∀o,h1.get? a=some o→h2.get? a=some o):bw P w h2 a ks:=by
 obtain ⟨n,o,es,ep,t,e,r⟩:=x
 exact ⟨n,o,es,ep,t,k o e,r⟩
theorem sS {P:Program} {w:World} {H:Hp} {h:Heap} {a:Addr} {ks:List Str} (x:bw P w h a ks):a8 P w H h a (iK P w a ks):=
 ⟨x,let ⟨_,o,_,_,_,e,_⟩:=x;⟨o,e⟩,fun h1 h2 y k=>bw.iD y k⟩
theorem tS {X:Cx}:wV X (newSet (.type "set")) (fun l=>iK X.prog X.w l []):=fun pins s σ H Q E I h=>by
 unfold newSet setsByText
 refine wpAny_bind (wpAny_bind (wpAny_askSetting (wpAny_pure ?_)))
 dsimp only
 refine wpAny_newObj_type (h _ s.toks (I.laid (a:=s.heap.objs.size) (t':=s.toks) (fun _ _ q=>Heap.get?_push_of_some _ q) (Nat.le_refl _) (sS ⟨.nil,_,#[],0,_,Heap.get?_push_size _ rfl,⟨rfl,rfl,rfl⟩,rfl,?_⟩)))
 exact ⟨fun e he=>by simp at he,fun e he=>by simp at he,.refl _,by decide,rfl,rfl,fun z=>absurd rfl z⟩
theorem u4 {P:Program} {w:World} {A:Around} {E:Value→Shared→Prop} {s:Shared} {a:Addr} {ks:List Str} {x:Str} {u:Tok} {Q:Value→Shared→Prop} (hS:bw P w s.heap a ks) (hroom:ks.length+1 < scanBound)
  (h:∀h',Heap.SameBut a s.heap h'→bw P w h' a (cK ks x)→Q .none {s with heap:=h',toks:=s.toks+1}):wpAny (model P w) A (call (.builtin "set.add") [.ref a,.str x u]) Q E s:=by
 have hT:=hS.type
 refine wpAny_call_entry F.slot_set_add hT F.entry_set_add ?_ (F.args_set_add_2 _ _)
 unfold Builtin.«set.add» Builtin.Frozenset.oneOther Builtin.Frozenset.addrOf setAdd
 simp only [List.isEmpty_nil,bind_assoc,pure_bind]
 refine wpAny_bind (wpAny_holding (wpAny_bind ((au P w).pyHash (dA (x:=x)) ?_)))
 refine jV (s:={s with toks:=s.toks+1}) hS hroom fun b h' hs hS'=>?_
 exact wpAny_pure ⟨_,rfl,h h' hs hS'⟩
section
variable {B:Cx} {elt k v:Expr} {te tk tv:TE} {l:Addr}
def xB (tk tv:TE) (l:Addr):TK:=fun τ H N=>tk τ H fun x H1=>tv τ H1 fun y H2=>∃kvs kk,H2 l=some (.dK kvs)∧x=kV kk∧kvs.length < sizeLine∧N τ (upd H2 l (.dK (putK kvs kk y)))
theorem vT (hk:PE B k tk) (hv:PE B v tv):PM B (gC k v l B.env) (xB tk tv l):=fun pins s τ H N I h=>by
 unfold gC
 refine wpAny_bind (thn (hk pins s τ H _ I h) fun ku s1 h1=>?_)
 obtain ⟨x,H1,I1,r1,q1⟩:=h1
 refine wpAny_bind (wpAny_holding (thn (hv pins s1 τ H1 _ I1 q1) fun vu s2 h2=>?_))
 obtain ⟨y,H2,I2,r2,kvs,kk,e,rfl,hz,n2⟩:=h2
 refine wpAny_bind (wpAny_standAt (wpAny_holding ?_))
 obtain ⟨z,hd,vs,rel,dd⟩:=fc I2.hok e
 have hzz:vs.length≤sizeLine:=by rw [←rel.length];exact z
 have hl:(putK kvs kk y).length≤sizeLine:=by have:=cV kvs kk y;omega
 refine wpAny_dictSet_pairs (hsz:=hzz) (cX r1) dd fun h' dd' hs=>?_
 have he:∃q,h'.get? l=some q:=let ⟨q,_,_,hq,_⟩:=dd';⟨q,hq⟩
 exact ⟨τ,_,cZ I2 (by rw [e];exact True.intro) hs he (hZ hl hd (rel.put kk r2) dd'),n2⟩
def xA (P:Program) (w:World) (te:TE) (l:Addr):TK:=fun τ H N=>te τ H fun x H1=>∃ks kk,H1 l=some (iK P w l ks)∧x=.str kk∧ks.length+1 < scanBound∧N τ (upd H1 l (iK P w l (cK ks kk)))
theorem yj (he:PE B elt te):PM B (emitSet elt (.ref l) B.env) (xA B.prog B.w te l):=fun pins s τ H N I h=>by
 unfold emitSet
 refine wpAny_bind (thn (he pins s τ H _ I h) fun u s1 h1=>?_)
 obtain ⟨x,H1,I1,r1,ks,kk,e,rfl,hz,n1⟩:=h1
 obtain ⟨tk,rfl⟩:=r1
 refine wpAny_bind (wpAny_standAt (wpAny_bind ?_))
 obtain ⟨hS,_,_⟩:=I1.hok l _ e
 refine u4 hS hz fun h' hs hS'=>wpAny_pure ?_
 have hget:∃q,h'.get? l=some q:=let ⟨_,q,_,_,_,hq,_⟩:=hS';⟨q,hq⟩
 exact ⟨τ,_,cZ I1 (by rw [e];exact True.intro) hs hget (sS hS'),n1⟩
end
end L2
namespace Sm
open PySem L2 PySem.Spec PyProof.Rows
def acD:Ac (List (Key×D)) where
 at_:=fun K ρ H l a=>∃us,H l=some (.dK us)∧RepK K ρ H us a
 mono:=fun ⟨vs,e,r⟩ T q=>⟨vs,q.trans e,r.mono T⟩
def acS (P:Program) (w:World):Ac (List Str) where
 at_:=fun K ρ H l a=>H l=some (iK P w l a)∧∀k∈a,PyData.strOk k=true
 mono:=fun ⟨e,z⟩ T q=>⟨q.trans e,z⟩
def mD (k v:EM):MK (List (Key×D)):=fun δ h a=>(k δ h).bind fun p=>(v δ p.2).bind fun q=>(fy p.1).bind fun kk=>if a.length < sizeLine then some (δ,q.2,putD a kk q.1) else none
def zL:D→Option Str
 | .str x=>some x
 | _=>none
def mS (e:EM):MK (List Str):=fun δ h a=>(e δ h).bind fun p=>(zL p.1).bind fun kk=>if a.length+1 < scanBound then some (δ,p.2,cK a kk) else none
theorem pQ {K:PySem.W.Frag} {ρ:Ad} {H:Hp} {v:V} {d:D} {x:Str} (r:Rep K ρ H v d) (e:zL d=some x):v=.str x∧PyData.strOk x=true:=by
 cases r with
 | str x=>cases e;exact ⟨rfl,x⟩
 | _=>cases e
section
variable {X:Cx} {elt k v:Expr} {me mk mv:EM}
theorem StpL.put {K:PySem.W.Frag} {ρ ρ1:Ad} {H H1:Hp} {l:Addr} {o:HO} (T:Stp ρ H ρ1 H1) (hl:l∈ρ.rs):StpL l ρ H ρ1 (upd H1 l o):=by
 have hl1:l∈ρ1.rs:=by rw [T.rs];exact hl
 exact ⟨T.toCh.trans (Ch.put hl1),T.rs,fun b hb n=>(ai n).trans (T.res b hb)⟩
theorem RepK.len {K:PySem.W.Frag} {ρ:Ad} {H:Hp}:∀{us:List (Key×V)} {ks:List (Key×D)},RepK K ρ H us ks→us.length=ks.length
 | _,_,.nil=>rfl
 | _,_,.cons _ r=>by rw [List.length_cons,List.length_cons,r.len]
theorem vb (hk:SE X k mk) (hv:SE X v mv):SMK X (fun l env=>gC k v l env) acD (mD mk mv):=fun l=>(vT hk hv).imp fun τ H N ⟨ρ,δ,h,a,δ',h',a',R,S,hl,⟨vs,hv,rl⟩,e,kk⟩=>by
 obtain ⟨⟨x,h1⟩,e1,e2⟩:=bnd e
 obtain ⟨⟨y,h2⟩,e3,e4⟩:=bnd e2
 obtain ⟨c,e5,e6⟩:=bnd e4
 dsimp only at e3 e5 e6
 by_cases hz:a.length < sizeLine
 ·rw [if_pos hz] at e6
  cases e6
  refine ⟨ρ,δ,h,x,h1,R,S,e1,fun u H1 ⟨ρ1,T1,S1,r1⟩=>⟨ρ1,δ,h1,y,_,R.mono T1.toCh,S1,e3,fun u2 H2 ⟨ρ2,T2,S2,r2⟩=>⟨vs,c,((T1.trans T2).res l hl).trans hv,cW r1 e5,by rw [rl.len];exact hz,?_⟩⟩⟩
  have T:=T1.trans T2
  have hl2:l∈ρ2.rs:=by rw [T.rs];exact hl
  have Cp:Ch ρ2 H2 ρ2 (upd H2 l (.dK (putK vs c u2))):=Ch.put hl2
  exact kk ρ2 _ τ (StpL.put (K:=X.K) T hl) (S2.put hl2) ((R.mono T.toCh).mono Cp) ⟨_,ar,((rl.mono T.toCh).put r2).mono Cp⟩
 ·rw [if_neg hz] at e6;cases e6
theorem wR {ks:List Str} {c:Str} (h:∀k∈ks,PyData.strOk k=true) (hc:PyData.strOk c=true):∀k∈cK ks c,PyData.strOk k=true:=by
 unfold cK
 split
 ·exact h
 ·intro k hk
  rcases List.mem_append.mp hk with z | z
  ·exact h k z
  ·rw [List.mem_singleton] at z;subst z;exact hc
theorem xI (he:SE X elt me):SMK X (fun l env=>emitSet elt (.ref l) env) (acS X.prog X.w) (mS me):=fun l=>(yj he).imp fun τ H N ⟨ρ,δ,h,a,δ',h',a',R,S,hl,⟨hv,hok⟩,e,kk⟩=>by
 obtain ⟨⟨x,h1⟩,e1,e2⟩:=bnd e
 obtain ⟨c,e5,e6⟩:=bnd e2
 dsimp only at e5 e6
 by_cases hz:a.length+1 < scanBound
 ·rw [if_pos hz] at e6
  cases e6
  refine ⟨ρ,δ,h,x,_,R,S,e1,fun u H1 ⟨ρ1,T1,S1,r1⟩=>⟨a,c,(T1.res l hl).trans hv,(pQ r1 e5).1,hz,?_⟩⟩
  have hl1:l∈ρ1.rs:=by rw [T1.rs];exact hl
  have Cp:Ch ρ1 H1 ρ1 (upd H1 l (iK X.prog X.w l (cK a c))):=Ch.put hl1
  exact kk ρ1 _ τ (StpL.put (K:=X.K) T1 hl) (S1.put hl1) ((R.mono T1.toCh).mono Cp) ⟨ar,wR hok (pQ r1 e5).2⟩
 ·rw [if_neg hz] at e6;cases e6
end
end Sm
namespace L2
open PySem PySem.Spec PyProof.Rows
theorem Inv.draw {X:Cx} {pins:List (Addr×Obj)} {σ:L2.St} {H:Hp} {s:Shared} (I:Inv X pins σ H s) (d:Drawn):Inv X pins σ H {s with drawn:=d}:=⟨I.ok,I.os,I.bare,I.base,I.loc,I.cell,I.free,I.freeC,I.pin,I.hok,I.len⟩
theorem ko:∀{us:List Value} {ss:List Str},StrsAre us ss→Vals (ss.map V.str) us
 | _,_,.nil=>.nil
 | _,_,.cons x t r=>.cons ⟨t,rfl⟩ (ko r)
theorem pD {X:Cx} (hc:X.calm=true):cJ X (.builtin "sorted") (fun xs H Q=>∃a ks,xs=[.ref a]∧H a=some (iK X.prog X.w a ks)∧ks.length < 64∧∀l,H l=none→Q (.ref l) (upd H l (.lst ((bX ks).map V.str)))):=by
 intro pins s σ H xs us Q I r h
 obtain ⟨a,ks,rfl,e,h64,q⟩:=h
 obtain ⟨u,rfl,rx⟩:=vals1 r
 cases rx
 obtain ⟨hS,_,_⟩:=I.hok a _ e
 refine oH (I.ok.hd hc) hS h64 fun h' d l n out k hl ho hV=>?_
 have hz:((bX ks).map V.str).length≤sizeLine:=by
  rw [List.length_map,(br ks).length_eq,sizeLine_eq];omega
 refine ⟨.ref l,_,(I.laid (t':=s.toks) (o:=.lst ((bX ks).map V.str)) k hl ⟨hz,out.toList,n,ko hV,?_⟩).draw d,rfl,q l (I.hok.fresh hl)⟩
 rw [ho]
end L2
namespace Sm
open PySem L2 PySem.Spec PyProof.Rows
def eAc {α:Type} (caps:List (Option Nat)) (i:IM) (g:GM) (c:TM) (m:MK α) (a0:α) (out:α→D):EM:=fun δ h=>(i δ h).bind fun p=>(bG p.2.1 g c m p.1 (ff caps δ) p.2.2 a0).map fun q=>(out q.2.2,q.2.1)
section
variable {α:Type} {K:PySem.W.Frag} {A:Ac α} {g:GM} {mt:TM} {m:MK α}
theorem xX {caps:List (Option Nat)} {mi:IM} {o:Addr→HO} {a0:α} {out:α→D} (h0:∀ρ H l,A.at_ K ρ (upd H l (o l)) l a0) (hout:∀ρ H l a,A.at_ K ρ H l a→¬ρ.has l→Rep K ρ H (.ref l) (out a)) {σ:L2.St} {H:Hp} {Q:VK}
  (hh:tM K (eAc caps mi g mt m a0 out) σ H Q):gL caps (tMI K mi) o (tMG K g) (tMT K mt) (fun l=>tMK K A l m) σ H Q:=by
 obtain ⟨ρ,δ,h,d,h',R,S,ee,k⟩:=hh
 obtain ⟨⟨xs,ws,h1⟩,e1,e2⟩:=bnd ee
 obtain ⟨⟨δ',h2,a'⟩,e3,e4⟩:=mpd e2
 cases e4
 exact nu h0 ⟨ρ,δ,h,xs,ws,h1,δ',_,a',R,S,e1,e3,fun l ρ' H' T S' n at'=>k _ _ ⟨ρ',T,S',hout _ _ _ _ at' n⟩⟩
theorem zR {caps:List (Option Nat)} {mi:IM} {m:MK (List (Key×D))} {σ:L2.St} {H:Hp} {Q:VK} (hh:tM K (eAc caps mi g mt m [] .dv) σ H Q):gL caps (tMI K mi) (fun _=>.dK []) (tMG K g) (tMT K mt) (fun l=>tMK K acD l m) σ H Q:=
 xX (A:=acD) (o:=fun _=>.dK []) (a0:=[]) (out:=.dv) (fun ρ H l=>show ∃us,_ from ⟨[],ar,.nil⟩) (fun ρ H l a h n=>by obtain ⟨us,e,r⟩:=h;exact .dv e n r) hh
end
section
variable {X:Cx} {k v tg iter elt tg2 iter2:Expr} {pos:Pos} {mk mv me:EM} {mt mt2:TM} {g g2:GM} {N':List Str} {caps:List (Option Nat)} {scope:Scope} {ifs ifs2:List Expr} {mi mi2:IM}
theorem sV (C:CompScope X N' caps scope) (hc:X.calm=true) (hi:SI X tg iter mi) (hg:∀C s₃ H₃ fp pl,SG (blk X N' scope C s₃ H₃ fp pl) tg g) (hif:∀C s₃ H₃ fp pl,SIf (blk X N' scope C s₃ H₃ fp pl) ifs mt)
  (hk:∀C s₃ H₃ fp pl,SE (blk X N' scope C s₃ H₃ fp pl) k mk) (hv:∀C s₃ H₃ fp pl,SE (blk X N' scope C s₃ H₃ fp pl) v mv) (hs:∀x,foldedSetIterable iter X.env x=pure x:=by intro _;kernel_rfl):
  SE X (.DictComp k v [⟨tg,iter,ifs,0⟩] scope pos) (eAc caps mi g mt (mD mk mv) [] .dv):=
 (nD (g:=tMG X.K g) (tc:=tMT X.K mt) (tm:=fun l=>tMK X.K acD l (mD mk mv)) C hc (oW ..) rfl (fun it l env=>oA ..) rj hi hg hif (fun C s₃ H₃ fp pl l=>vb (hk C s₃ H₃ fp pl) (hv C s₃ H₃ fp pl) l) rfl hs).imp fun _ _ _=>
  zR
def qq (caps:List (Option Nat)) (i:IM) (g:GM) (c:TM) (m:MK (List Str)):EM:=fun δ h=>(i δ h).bind fun p=>(bG p.2.1 g c m p.1 (ff caps δ) p.2.2 []).bind fun q=>if q.2.2.length < 64 then some (.lv ((bX q.2.2).map D.str),q.2.1) else none
theorem kG {K:PySem.W.Frag} {ρ:Ad} {H:Hp}:∀(ss:List Str),(∀k∈ss,PyData.strOk k=true)→RepL K ρ H (ss.map V.str) (ss.map D.str)
 | [],_=>.nil
 | x::r,h=>.cons (.str (h x List.mem_cons_self)) (kG r fun k hk=>h k (List.mem_cons_of_mem _ hk))
theorem vo {m:MK (List Str)} {σ:L2.St} {H:Hp} {Q:VK} (hh:tM X.K (qq caps mi g mt m) σ H Q):
  tCB (fun xs H Q=>∃a ks,xs=[.ref a]∧H a=some (iK X.prog X.w a ks)∧ks.length < 64∧∀l,H l=none→Q (.ref l) (upd H l (.lst ((bX ks).map V.str)))) (fun σ H Q=>gL caps (tMI X.K mi) (fun l=>iK X.prog X.w l []) (tMG X.K g) (tMT X.K mt) (fun l=>tMK X.K (acS X.prog X.w) l m) σ H fun v H1=>Q [v] H1) σ H Q:=by
 obtain ⟨ρ,δ,h,d,h',R,S,ee,k⟩:=hh
 obtain ⟨⟨xs,ws,h1⟩,e1,e2⟩:=bnd ee
 obtain ⟨⟨δ',h2,a'⟩,e3,e4⟩:=bnd e2
 dsimp only at e4
 by_cases hz:a'.length < 64
 ·rw [if_pos hz] at e4
  cases e4
  show gL caps (tMI X.K mi) (fun l=>iK X.prog X.w l []) (tMG X.K g) (tMT X.K mt) (fun l=>tMK X.K (acS X.prog X.w) l m) σ H fun v H1=>∃a ks,[v]=[V.ref a]∧H1 a=some (iK X.prog X.w a ks)∧ks.length < 64∧∀l,H1 l=none→Q (.ref l) (upd H1 l (.lst ((bX ks).map V.str)))
  refine nu (A:=acS X.prog X.w) (o:=fun l=>iK X.prog X.w l []) (a0:=[]) (fun ρ H l=>⟨ar,fun k hk=>(nomatch hk)⟩) ⟨ρ,δ,h,xs,ws,h1,δ',_,a',R,S,e1,e3,fun l ρ' H' T S' n ⟨at',ok⟩=>?_⟩
  refine ⟨l,a',rfl,at',hz,fun l2 hl2=>?_⟩
  have hp:=br a'
  exact k _ _ (bM.step T (bM.lv S' (kG _ fun k hk=>ok k (hp.mem_iff.mp hk)) hl2))
 ·rw [if_neg hz] at e4;cases e4
theorem sT {p spos:Pos} (C:CompScope X N' caps scope) (hc:X.calm=true) (hgl:Gl X "sorted") (hmg:X.mg "sorted"=none) (hi:SI X tg iter mi) (hg:∀C s₃ H₃ fp pl,SG (blk X N' scope C s₃ H₃ fp pl) tg g) (hif:∀C s₃ H₃ fp pl,SIf (blk X N' scope C s₃ H₃ fp pl) ifs mt)
  (hi2:∀C s₃ H₃ fp pl,SI (blk X N' scope C s₃ H₃ fp pl) tg2 iter2 mi2) (hg2:∀C s₃ H₃ fp pl,SG (blk X N' scope C s₃ H₃ fp pl) tg2 g2) (hif2:∀C s₃ H₃ fp pl,SIf (blk X N' scope C s₃ H₃ fp pl) ifs2 mt2)
  (he:∀C s₃ H₃ fp pl,SE (blk X N' scope C s₃ H₃ fp pl) elt me) (hs:∀x,foldedSetIterable iter X.env x=pure x:=by intro _;kernel_rfl) (hs2:∀env x,foldedSetIterable iter2 env x=pure x:=by intro _ _;kernel_rfl):
  SE X (.Call (.Name "sorted" p) [.SetComp elt [⟨tg,iter,ifs,0⟩,⟨tg2,iter2,ifs2,0⟩] scope spos] [] pos) (qq caps mi g mt (nQ mi2 g2 mt2 (mS me))):=by
 have hcomp:=nD (g:=tMG X.K g) (tc:=tMT X.K mt) (tm:=fun l=>tMK X.K (acS X.prog X.w) l (nQ mi2 g2 mt2 (mS me))) C hc (kL elt [⟨tg,iter,ifs,0⟩,⟨tg2,iter2,ifs2,0⟩] scope spos) rfl (fun it l env=>mU ..) tS hi hg hif
  (fun C s₃ H₃ fp pl l=>va (X:=blk X N' scope C s₃ H₃ fp pl) (kL ..) rfl (fun it l env=>mT ..) rfl rfl (hi2 C s₃ H₃ fp pl) (hg2 C s₃ H₃ fp pl) (hif2 C s₃ H₃ fp pl) (xI (he C s₃ H₃ fp pl)) (hs2 _) l) rfl hs
 exact (jh (pD hc) hgl hmg (by decide+kernel) (iP hcomp oY)).imp fun σ H Q hh=>vo hh
end
end Sm
namespace L2
open PySem PySem.Spec PyProof.Rows
theorem nB (its:List Value):slicePick its.toArray none none (some (-1))=its.reverse.toArray:=by
 unfold slicePick
 congr 1
 have hb:sliceBounds none none (some (-1)) its.toArray.size=((its.length:Int)-1,-1,-1):=by
  unfold sliceBounds
  simp
 rw [hb]
 dsimp only
 have hr:sliceRange ((its.length:Int)-1) (-1) (-1)=(List.range its.length).map fun k=>its.length-1-k:=by
  unfold sliceRange
  dsimp only
  rw [if_neg (by decide)]
  have hc:(if (its.length:Int)-1 > -1 then ((its.length:Int)-1 - -1 - -1-1) / (- -1) else 0)=(its.length:Int):=by
   split
   ·simp
   ·omega
  rw [hc,Int.toNat_natCast]
  refine List.map_congr_left fun k hk=>?_
  have:=List.mem_range.mp hk
  omega
 rw [hr]
 refine List.ext_getElem? fun i=>?_
 rw [List.filterMap_map]
 have hall:∀k∈List.range its.length,((fun x=>its.toArray[x]?)∘fun k=>its.length-1-k) k=some (its.getD (its.length-1-k) .none):=fun k hk=>by
  have:=List.mem_range.mp hk
  show its.toArray[its.length-1-k]?=_
  rw [List.getElem?_toArray,List.getD_eq_getElem?_getD,List.getElem?_eq_getElem (by omega)]
  rfl
 have hm:∀l:List Nat,(∀k∈l,((fun x=>its.toArray[x]?)∘fun k=>its.length-1-k) k=some (its.getD (its.length-1-k) .none))→l.filterMap ((fun x=>its.toArray[x]?)∘fun k=>its.length-1-k)=l.map fun k=>its.getD (its.length-1-k) .none:=by
  intro l
  induction l with
  | nil=>intro _;rfl
  | cons k r ih=>intro h;rw [List.filterMap_cons,h k List.mem_cons_self,List.map_cons,ih fun x hx=>h x (List.mem_cons_of_mem _ hx)]
 rw [hm _ hall,List.getElem?_map]
 by_cases z:i < its.length
 ·rw [List.getElem?_range z,List.getElem?_reverse z]
  simp only [Option.map]
  rw [List.getD_eq_getElem?_getD,List.getElem?_eq_getElem (by omega)]
  rfl
 ·rw [List.getElem?_eq_none (by simpa using z),List.getElem?_eq_none (by simpa using z)]
  rfl
theorem kq:∀{xs:List V} {us:List Value} {x:V} {u:Value},Vals xs us→RelV x u→Vals (xs++[x]) (us++[u])
 | _,_,_,_,.nil,r=>.cons r .nil
 | _,_,_,_,.cons r l,r'=>.cons r (kq l r')
theorem iV:∀{xs:List V} {us:List Value},Vals xs us→Vals xs.reverse us.reverse
 | _,_,.nil=>.nil
 | _,_,.cons r l=>by
  rw [List.reverse_cons,List.reverse_cons]
  exact kq (iV l) r
section
variable {X:Cx} {e st:Expr} {te ts:TE} {pos p2:Pos}
end
end L2
namespace Sm
open PySem L2 PySem.Spec PyProof.Rows
section
variable {X:Cx} {e st a b c:Expr} {ma ms mb mc:EM} {pos p2:Pos}
theorem RepL.rev {K:PySem.W.Frag} {ρ:Ad} {H:Hp}:∀{vs:List V} {ds:List D},RepL K ρ H vs ds→RepL K ρ H vs.reverse ds.reverse
 | _,_,.nil=>.nil
 | _,_,.cons r l=>by rw [List.reverse_cons,List.reverse_cons];exact (RepL.rev l).snoc r
def uw:Fn:=fun ds h=>match ds with
 | [d]=>(bp d h).map fun kvs=>(.ob h.length,h++[.dct kvs])
 | _=>none
theorem uG:eC X (.type "dict") uw:=by
 intro pins s σ H xs us Q I r hh
 obtain ⟨ρ,h,ds,z,h',S,l,ee,k⟩:=hh
 match ds,l,ee with
 | [],_,ee=>cases ee
 | _::_::_,_,ee=>cases ee
 | [d],l,ee=>
  obtain ⟨v,rfl,rd⟩:=rep1 l
  obtain ⟨kvs,q,e2⟩:=mpd ee
  cases e2
  obtain ⟨a,ws,rfl,ha,lk⟩:=cA S rd q
  obtain ⟨u,rfl,ru⟩:=Vals.one r
  obtain rfl:u=Value.ref a:=ru
  exact nZ I (.inl ha) fun p s' hp I'=>⟨.ref p,_,I',rfl,k _ _ (.obD S lk hp)⟩
abbrev PrM:=DS→MH→Option (List (Key×D)×MH)
def wb:PrM:=fun _ h=>some ([],h)
def qe (k v:EM) (r:PrM):PrM:=fun δ h=>(k δ h).bind fun p=>(v δ p.2).bind fun q=>(fy p.1).bind fun kk=>(r δ q.2).map fun z=>((kk,q.1)::z.1,z.2)
inductive TPri (K:PySem.W.Frag) (m:PrM) (σ:L2.St) (H:Hp) (Q:List (V×V)→Hp→Prop):Prop where
 | mk (ρ δ h kvs h'):RepS K ρ H σ δ→Sim K ρ h H→(m δ h=some (kvs,h'))→(∀us ρ' H',Stp ρ H ρ' H'→Sim K ρ' h' H'→RepK K ρ' H' us kvs→Q (us.map fun kv=>(kV kv.1,kv.2)) H')→TPri K m σ H Q
def tPr (K:PySem.W.Frag) (m:PrM):L2.St→Hp→(List (V×V)→Hp→Prop)→Prop:=fun σ H Q=>TPri K m σ H Q
def SP (X:Cx) (pos:Pos) (keys:List (Option Expr)) (vals:List Expr) (m:PrM):Prop:=∃trs,PPs X pos keys vals trs∧∀σ H Q,tPr X.K m σ H Q→lH trs σ H Q
theorem sP:SP X pos [] [] wb:=⟨[],vP,fun σ H Q ⟨ρ,δ,h,kvs,h',R,S,e,k⟩=>by
 cases e
 exact k [] ρ H (.refl _ _) S .nil⟩
theorem pT {kx vx:Expr} {ks:List (Option Expr)} {vs:List Expr} {mk mv:EM} {m:PrM} (hk:SE X kx mk) (hv:SE X vx mv) (hr:SP X pos ks vs m):SP X pos (some kx::ks) (vx::vs) (qe mk mv m):=by
 obtain ⟨trs,h1,h2⟩:=hr
 refine ⟨_,tJ hk hv h1,fun σ H Q ⟨ρ,δ,h,kvs,h',R,S,ee,k⟩=>?_⟩
 obtain ⟨⟨x,ha⟩,e1,e2⟩:=bnd ee
 obtain ⟨⟨y,hb⟩,e3,e4⟩:=bnd e2
 obtain ⟨kk,e5,e6⟩:=bnd e4
 obtain ⟨⟨zs,hz⟩,e7,e8⟩:=mpd e6
 cases e8
 refine ⟨ρ,δ,h,x,ha,R,S,e1,fun v H1 ⟨ρ1,T1,S1,r1⟩=>⟨ρ1,δ,ha,y,hb,R.mono T1.toCh,S1,e3,fun u H2 ⟨ρ2,T2,S2,r2⟩=>?_⟩⟩
 refine h2 σ H2 _ ⟨ρ2,δ,hb,zs,_,(R.mono T1.toCh).mono T2.toCh,S2,e7,fun us ρ3 H3 T3 S3 r3=>?_⟩
 have ek:=cW r1 e5
 subst ek
 exact k ((kk,u)::us) ρ3 H3 ((T1.trans T2).trans T3) S3 (.cons (r2.mono T3.toCh) r3)
def qr (m:PrM):EM:=fun δ h=>(m δ h).bind fun p=>if p.1.length≤15 then some (.dv (dh [] p.1),p.2) else none
theorem pV {keys:List (Option Expr)} {vals:List Expr} {m:PrM} (h:SP X pos keys vals m) (hall:keys.all (·.isSome)=true) (hl:keys.length=vals.length) (h0:keys≠[]) (hp:∀trs,PPs X pos keys vals trs→PE X (.Dict keys vals pos) (wW trs)):SE X (.Dict keys vals pos) (qr m):=by
 obtain ⟨trs,h1,h2⟩:=h
 refine (hp trs h1).imp fun σ H Q ⟨ρ,δ,h,d,h',R,S,ee,k⟩ p hpn=>?_
 obtain ⟨⟨kvs,ha⟩,e1,e2⟩:=bnd ee
 dsimp only at e2
 by_cases z:kvs.length≤15
 ·rw [if_pos z] at e2
  cases e2
  have Tl:Ch ρ H (ρ.keep p) (upd H p (.dK [])):=Ch.keep hpn
  have nl:¬ρ.has p:=S.fresh hpn
  refine h2 σ _ _ ⟨ρ.keep p,δ,h,kvs,_,R.mono Tl,S.keep hpn,e1,fun us ρ2 H2 T2 S2 r2=>?_⟩
  have hp2:H2 p=some (.dK []):=(T2.res p List.mem_cons_self).trans ar
  refine ⟨hp2,us,rfl,by rw [r2.len];exact z,?_⟩
  obtain ⟨ob2,rs2⟩:=ρ2
  have ers:rs2=p::ρ.rs:=T2.rs
  subst ers
  have hml:p∈(⟨ob2,p::ρ.rs⟩:Ad).rs:=List.mem_cons_self
  have hsub:∀b∈ρ.rs,b∈p::ρ.rs:=fun b hb=>List.mem_cons_of_mem _ hb
  have hne:∀b∈ρ.rs,b≠p:=fun b hb z=>nl (.inr (z ▸ hb))
  have Cp:Ch ⟨ob2,p::ρ.rs⟩ H2 ⟨ob2,p::ρ.rs⟩ (upd H2 p (.dK (aC [] us))):=Ch.put hml
  have C2:Ch ⟨ob2,p::ρ.rs⟩ (upd H2 p (.dK (aC [] us))) ⟨ob2,ρ.rs⟩ (upd H2 p (.dK (aC [] us))):=Ch.free hsub
  refine k _ _ ⟨⟨ob2,ρ.rs⟩,⟨((Tl.trans T2.toCh).trans Cp).trans C2,rfl,fun b hb=>?_⟩,(S2.put hml).free hsub,.dv ar (fun z=>?_) ((RepK.merge .nil r2).mono (Cp.trans C2))⟩
  ·show upd H2 p _ b=H b
   rw [ai (hne b hb),T2.res b (hsub b hb)]
   exact ai (hne b hb)
  ·rcases z with z | z
   ·exact (S2.rsv p List.mem_cons_self).2 z
   ·exact nl (.inr z)
 ·rw [if_neg z] at e2;cases e2
end
end Sm
namespace L2
open PySem PySem.Spec PyProof.Rows
section
variable {prog:Program} {w:World} {A:Around} {E:Value→Shared→Prop} {s:Shared}
open HT in
theorem qK {t sl:Addr} {items:Array Value} {vl vu:Value} {lo hi:Option Int} {Q:Value→Shared→Prop} (ht:IsTup s.heap t items) (hs:s.heap.IsSliceOf sl vl vu .none) (pl:IsPart vl lo) (pu:IsPart vu hi)
  (hw:sIx items.size 0 lo=0∧sIx items.size items.size hi=items.size) (h:Q (.ref t) s):wpAny (model prog w) A (getItem (.ref t) (.ref sl)) Q E s:=by
 obtain ⟨os,hos,hcs,hds⟩:=id hs
 have hTs:s.TypeIs (.ref sl) "slice":=⟨os,hos,hcs⟩
 unfold getItem
 try with_reducible refine wpAny_holding ?_
 first | refine wpAny_bind (wpAny_pure ?_) | skip
 refine wpAny_bind (wpAny_sequenceKey ht.typeIs (by decide) ?_)
 refine wpAny_bind (wpAny_callSpecial?_slot (name:=Str.ofString "__getitem__") ht.typeIs PyProof.Rows.slot_tuple_getitem (wpAny_call_entry PyProof.Rows.slot_tuple_getitem ht.typeIs entry_tuple_getitem ?_ (args_tuple_getitem _ _)))
 show wpAny _ _ (Builtin.Tuple.tupleItemsOf (.ref t) >>=_) _ _ s
 refine wpAny_bind (tupleItemsOf_ ht (wpAny_bind (wpAny_typeOf hTs ?_)))
 rw [if_pos (by decide)]
 refine wpAny_bind (dq hs pl pu ?_)
 show wpAny _ _ (if (((sIx items.size 0 lo:Nat):Int)==0&&(1:Int)==1&&(sIx items.size items.size hi-sIx items.size 0 lo)==items.size)=true then _ else _) _ _ s
 rw [if_pos (by rw [hw.1,hw.2];simp)]
 unfold Builtin.Tuple.tupleIsExact
 simp only [bind_assoc,pure_bind]
 refine wpAny_bind (wpAny_typeOf ht.typeIs ?_)
 rw [if_pos (by decide)]
 first
  | exact wpAny_bind (wpAny_rule (wpAny_pure ⟨_,rfl,wpAny_pure h⟩))
  | exact wpAny_bind (wpAny_rule (wpAny_bind (wpAny_pure (wpAny_pure ⟨_,rfl,wpAny_pure h⟩))))
end
section
variable {X:Cx}
def Bw (K:PySem.W.Frag):V→Option Int→Option Int→Hp→VK→Prop:=fun x lo hi H Q=>∃a xs,x=.ref a∧SqT K H a xs∧(HT.sIx xs.length 0 lo=0∧HT.sIx xs.length xs.length hi=xs.length)∧Q (.ref a) H
theorem sR:SlR X (Bw X.K):=by
 intro pins s σ H x v vl vu lo hi sl Q I rx hs pl pu h
 obtain ⟨a,xs,rfl,hx,hw,q⟩:=h
 cases rx
 obtain ⟨its,r,ht,hz⟩:=I.tuple hx
 have hlen:its.toArray.size=xs.length:=by rw [List.size_toArray];exact r.length.symm
 exact ⟨"tuple",_,PyProof.Rows.slot_tuple_getitem.lookup,ht.typeIs,qK ht hs pl pu (by rw [hlen];exact hw) ⟨.ref a,H,I,rfl,q⟩⟩
end
end L2
namespace Sm
open PySem L2 PySem.Spec PyProof.Rows
section
variable {X:Cx}
def uo (d:D) (lo hi:Option Int) (h:MH):Option (D×MH):=match d with
 | .tup xs=>if HT.sIx xs.length 0 lo=0∧HT.sIx xs.length xs.length hi=xs.length then some (.tup xs,h) else some (.tup (cutD xs lo hi),h)
 | d=>fSl d lo hi h
def uA (a:EM) (l u:PM):EM:=fun δ h=>(a δ h).bind fun p=>(l δ p.2).bind fun q=>(u δ q.2).bind fun r=>uo p.1 q.1 r.1 r.2
inductive RSLAi (K:PySem.W.Frag) (x:V) (lo hi:Option Int) (H:Hp) (Q:VK):Prop where
 | mk (ρ h d z h'):Sim K ρ h H→Rep K ρ H x d→(uo d lo hi h=some (z,h'))→(∀v H',bM K ρ H h' z v H'→Q v H')→RSLAi K x lo hi H Q
def BA (K:PySem.W.Frag):V→Option Int→Option Int→Hp→VK→Prop:=fun x lo hi H Q=>RSLAi K x lo hi H Q
theorem xF:SlR X (BA X.K):=by
 intro pins s σ H x v vl vu lo hi sl Q I rx hs pl pu hh
 obtain ⟨ρ,h,d,z,h',S,rd,ee,k⟩:=hh
 cases d with
 | tup xs=>
  unfold uo at ee
  dsimp only at ee
  by_cases c:HT.sIx xs.length 0 lo=0∧HT.sIx xs.length xs.length hi=xs.length
  ·rw [if_pos c] at ee
   cases ee
   have rd0:=rd
   cases rd with | tup h0 l0=>
   exact sR pins s σ H _ v vl vu lo hi sl Q I rx hs pl pu ⟨_,_,rfl,h0.sq,by rw [l0.length];exact c,k _ _ (.here S rd0)⟩
  ·rw [if_neg c] at ee
   exact wY pins s σ H x v vl vu lo hi sl Q I rx hs pl pu ⟨ρ,h,_,z,h',S,rd,by unfold fSl;dsimp only;rw [if_neg c];exact ee,k⟩
 | _=>exact wY pins s σ H x v vl vu lo hi sl Q I rx hs pl pu ⟨ρ,h,_,z,h',S,rd,ee,k⟩
theorem oI {a:Expr} {lo hi:Option Expr} {pos p2:Pos} {ma:EM} {ml mu:PM} (ha:SE X a ma) (hl:SP' X lo ml) (hu:SP' X hi mu):SE X (.Subscript a (.Slice lo hi none p2) pos) (uA ma ml mu):=
 (tO xF ha hl hu).imp fun σ H Q ⟨ρ,δ,h,d,h',R,S,e,k⟩=>by
  obtain ⟨⟨x,h1⟩,e1,e2⟩:=bnd e
  obtain ⟨⟨l,h2⟩,e3,e4⟩:=bnd e2
  obtain ⟨⟨u,h3⟩,e5,e6⟩:=bnd e4
  exact ⟨ρ,δ,h,x,h1,R,S,e1,fun v H1 ⟨ρ1,T1,S1,r1⟩=>⟨ρ1,δ,h1,l,h2,R.mono T1.toCh,S1,e3,fun ρ2 H2 T2 S2=>⟨ρ2,δ,h2,u,h3,(R.mono T1.toCh).mono T2.toCh,S2,e5,fun ρ3 H3 T3 S3=>
   ⟨ρ3,h3,x,d,h',S3,r1.mono (T2.trans T3).toCh,e6,fun w H4 p=>k w H4 (p.step (T1.trans (T2.trans T3)))⟩⟩⟩⟩
def eZ (d e:D) (h:MH):Option (D×MH):=match d,e with
 | .str x,.int n=>if x.length≤1000∧0≤n∧n≤1000∧PyData.strOk (Txt.mul x n)=true then some (.str (Txt.mul x n),h) else none
 | d,e=>yZ d e h
theorem cT:OpS X (binaryOp .Mult) eZ:=by
 intro pins s σ H x y v u Q I rx ry hh
 obtain ⟨ρ,h,d,e,z,h',S,rd,re,ee,k⟩:=hh
 unfold eZ at ee
 split at ee
 ·rename_i x0 n
  by_cases c:x0.length≤1000∧0≤n∧n≤1000∧PyData.strOk (Txt.mul x0 n)=true
  ·rw [if_pos c] at ee
   cases ee
   cases rd
   cases re
   obtain ⟨t1,rfl⟩:=rx
   obtain ⟨t2,rfl⟩:=ry
   obtain ⟨c1,c2,c3,c4⟩:=c
   refine SB.mul ⟨?_,fun _ _=>?_,fun _ _=>?_⟩ fun t' k'=>⟨.str _,H,I.kept (t':=k') (h':=s.heap) fun _ _ e=>e,⟨t',rfl⟩,k _ _ (.here S (.str c4))⟩
   ·rw [decide_eq_false (by omega),decide_eq_false (by omega)];rfl
   ·have h1:(9007199254740991:Int)≤(2^63-1) / n:=by
     refine Int.le_ediv_of_mul_le (by omega) ?_
     have:9007199254740991*n≤9007199254740991*1000:=Int.mul_le_mul_of_nonneg_left c3 (by decide)
     omega
    omega
   ·have h1:x0.length*n.toNat≤1000*1000:=Nat.mul_le_mul c1 (by omega)
    refine decide_eq_false ?_
    have:=sizeLine_eq
    omega
  ·rw [if_neg c] at ee;cases ee
 ·exact yx pins s σ H x y v u Q I rx ry ⟨ρ,h,_,_,z,h',S,rd,re,ee,k⟩
end
end Sm
namespace L2
open PySem PySem.Spec PyProof.Rows
theorem sY (its:List Value):((List.range its.length).filterMap fun (k:Nat)=>its.toArray[(((its.length:Int)-1)+(k:Int)*(-1)).toNat]?).toArray=its.reverse.toArray:=by
 rw [←nB]
 unfold slicePick
 have hb:sliceBounds none none (some (-1)) its.toArray.size=((its.length:Int)-1,-1,-1):=by
  unfold sliceBounds
  simp
 rw [hb]
 dsimp only
 unfold sliceRange
 dsimp only
 rw [if_neg (by decide)]
 have hc:(if (its.length:Int)-1 > -1 then ((its.length:Int)-1 - -1 - -1-1) / (- -1) else 0)=(its.length:Int):=by
  split
  ·simp
  ·omega
 rw [hc,Int.toNat_natCast,List.filterMap_map]
 congr 2
 funext k
 show _=its.toArray[((its.length:Int)-1+-1*(k:Int)).toNat]?
 rw [Int.mul_comm]
section
variable {prog:Program} {w:World} {A:Around} {E:Value→Shared→Prop} {s:Shared}
open HT in
theorem u6 {t sl:Addr} {its:List Value} {tk:Tok} {Q:Value→Shared→Prop} (ht:IsTup s.heap t its.toArray) (hs:s.heap.IsSliceOf sl .none .none (.int (-1) tk))
  (h:Q (.ref s.heap.objs.size) {s with heap:=s.heap.push {cls:=.type "tuple",data:=.seq its.reverse.toArray}}) (hsz:its.length≤sizeLine):wpAny (model prog w) A (getItem (.ref t) (.ref sl)) Q E s:=by
 obtain ⟨os,hos,hcs,hds⟩:=id hs
 have hTs:s.TypeIs (.ref sl) "slice":=⟨os,hos,hcs⟩
 unfold getItem
 try with_reducible refine wpAny_holding ?_
 first | refine wpAny_bind (wpAny_pure ?_) | skip
 refine wpAny_bind (wpAny_sequenceKey ht.typeIs (by decide) ?_)
 refine wpAny_bind (wpAny_callSpecial?_slot (name:=Str.ofString "__getitem__") ht.typeIs PyProof.Rows.slot_tuple_getitem (wpAny_call_entry PyProof.Rows.slot_tuple_getitem ht.typeIs entry_tuple_getitem ?_ (args_tuple_getitem _ _)))
 show wpAny _ _ (Builtin.Tuple.tupleItemsOf (.ref t) >>=_) _ _ s
 refine wpAny_bind (tupleItemsOf_ ht (wpAny_bind (wpAny_typeOf hTs ?_)))
 rw [if_pos (by decide)]
 refine wpAny_bind (m:=Builtin.Slice.sliceApplied _ _) ?_
 unfold Builtin.Slice.sliceApplied Builtin.Slice.sliceFields
 refine wpAny_bind (wpAny_bind (wpAny_field hos hds (x:=.none) rfl (wpAny_bind (wpAny_field hos hds (x:=.none) rfl (wpAny_bind (wpAny_field hos hds (x:=.int (-1) tk) rfl (wpAny_pure ?_)))))))
 refine wpAny_bind (slicePart_int ?_)
 show wpAny _ _ (if ((-1:Int)==0)=true then _ else _) _ _ s
 rw [if_neg (by decide)]
 refine wpAny_bind (slicePart_none (wpAny_bind (slicePart_none (wpAny_bind (wpAny_pure ?_)))))
 have hadj:Builtin.Slice.sliceAdjust none none (-1) (its.toArray.size:Int)=((its.length:Int)-1,-1):=by
  unfold Builtin.Slice.sliceAdjust
  simp
 have hpl:Builtin.Slice.slicePlaces ((its.length:Int)-1) (-1) (-1)=its.length:=by
  unfold Builtin.Slice.slicePlaces
  rw [if_neg (by decide)]
  split
  ·simp
  ·omega
 show wpAny _ _ (match Builtin.Slice.sliceAdjust none none (-1) (its.toArray.size:Int) with | (lo,hi)=>pure (lo,(-1:Int),Builtin.Slice.slicePlaces lo hi (-1))) _ _ s
 rw [hadj]
 show wpAny _ _ (pure ((its.length:Int)-1,(-1:Int),Builtin.Slice.slicePlaces ((its.length:Int)-1) (-1) (-1))) _ _ s
 rw [hpl]
 refine wpAny_pure ?_
 show wpAny _ _ (if ((its.length:Int)-1==0&&(-1:Int)==1&&its.length==its.toArray.size)=true then _ else _) _ _ s
 rw [if_neg (by rw [show ((-1:Int)==1)=false from rfl];simp),sY]
 have htake:sizeOk (.seq its.reverse.toArray):=by
  show its.reverse.toArray.size≤sizeLine
  rw [List.size_toArray,List.length_reverse]
  exact hsz
 first
  | exact wpAny_bind (m:=Builtin.Tuple.tupleExact _) (wpAny_newObj_type (wpAny_pure ⟨_,rfl,wpAny_pure h⟩) htake)
  | exact wpAny_bind (wpAny_bind (m:=Builtin.Tuple.tupleExact _) (wpAny_newObj_type (wpAny_pure (wpAny_pure ⟨_,rfl,wpAny_pure h⟩)) htake))
end
section
variable {X:Cx} {e st:Expr} {te ts:TE} {pos p2:Pos}
def zD (K:PySem.W.Frag) (te ts:TE):TE:=fun σ H Q=>te σ H fun x H1=>ts σ H1 fun y H2=>y=.int (-1)∧∃a xs,x=.ref a∧((SqL K H2 a xs∧∀p,H2 p=none→Q (.ref p) (upd H2 p (.lst xs.reverse)))∨(SqT K H2 a xs∧∀p,H2 p=none→Q (.ref p) (upd H2 p (.tup xs.reverse))))
theorem vZ (he:PE X e te) (hs:PE X st ts):PE X (.Subscript e (.Slice none none (some st) p2) pos) (zD X.K te ts):=by
 intro pins s σ H Q I h
 refine Subscript_ (thn (he pins s σ H _ I h) fun v s1 ⟨x,H1,I1,r1,q1⟩=>?_)
 refine wpAny_Slice ?_
 rw [evalPart_none]
 refine wpAny_pure (wpAny_pure ?_)
 rw [evalPart_some]
 refine thn (hs pins s1 σ H1 _ I1 q1) fun vs s3 ⟨y,H3,I3,r3,ey,a,xs,ex,q3⟩=>?_
 subst ey ex
 obtain ⟨tk,rfl⟩:=r3
 cases r1
 have I4:Inv X pins σ H3 {s3 with heap:=s3.heap.push {cls:=.type "slice",data:=.fields #[.none,.none,.int (-1) tk]}}:=I3.kept (t':=s3.toks) fun b ob q=>Heap.get?_push_of_some _ q
 show wpAny (model X.prog X.w) X.A (subscriptTail e (.Slice none none (some st) p2) (.ref a) (.ref s3.heap.objs.size)) (EP X pins σ Q) X.xe {s3 with heap:=s3.heap.push {cls:=.type "slice",data:=.fields #[.none,.none,.int (-1) tk]}}
 rcases q3 with ⟨hx,q3⟩ | ⟨hx,q3⟩
 ·obtain ⟨its,r,ht,hz⟩:=I4.list hx
  refine tail_any (ops:=[.ref a,.ref s3.heap.objs.size]) (T:="list") ht.isList.typeIs slot_list_getitem.lookup ?_ (by with_unfolding_all rfl)
  refine wpAny_getItem_list_slice ht.isList (Heap.IsSliceOf.new ..) .none .none (.int (-1) tk) (by decide) ?_ (by rw [List.size_toArray,←r.length];exact hz)
  rw [nB]
  refine ⟨.ref _,_,I4.laid (t':=s3.toks) (o:=.lst xs.reverse) (fun b ob q=>Heap.get?_push_of_some _ q) (Nat.le_refl _) ?_,rfl,q3 _ (I4.hok.fresh (Nat.le_refl _))⟩
  exact ⟨by rw [List.length_reverse];exact hz,its.reverse,0,iV r,Heap.get?_push_size _ rfl⟩
 ·obtain ⟨its,r,ht,hz⟩:=I4.tuple hx
  refine tail_any (ops:=[.ref a,.ref s3.heap.objs.size]) (T:="tuple") ht.typeIs PyProof.Rows.slot_tuple_getitem.lookup ?_ (by with_unfolding_all rfl)
  refine u6 ht (Heap.IsSliceOf.new ..) ?_ (by rw [←r.length];exact hz)
  refine ⟨.ref _,_,I4.laid (t':=s3.toks) (o:=.tup xs.reverse) (fun b ob q=>Heap.get?_push_of_some _ q) (Nat.le_refl _) ?_,rfl,q3 _ (I4.hok.fresh (Nat.le_refl _))⟩
  exact ⟨by rw [List.length_reverse];exact hz,its.reverse,iV r,kj.new _ _⟩
end
end L2
namespace Sm
open PySem L2 PySem.Spec PyProof.Rows
section
variable {X:Cx} {e st:Expr} {ma ms:EM} {pos p2:Pos}
def uB (m s:EM):EM:=fun δ h=>(m δ h).bind fun p=>(s δ p.2).bind fun q=>match q.1 with
 | .int j=>if j=-1 then (bR p.1 q.2).map fun r=>(if kc p.1=true then .lv r.1.reverse else .tup r.1.reverse,q.2) else none
 | _=>none
theorem vi (he:SE X e ma) (hs:SE X st ms):SE X (.Subscript e (.Slice none none (some st) p2) pos) (uB ma ms):=(vZ he hs).imp fun σ H Q ⟨ρ,δ,h,d,h',R,S,ee,k⟩=>by
 obtain ⟨⟨x,h1⟩,e1,e2⟩:=bnd ee
 obtain ⟨⟨y,h2⟩,e3,e4⟩:=bnd e2
 dsimp only at e3 e4
 cases y <;> first | (cases e4;done) | skip
 rename_i j
 dsimp only at e4
 by_cases z:j=-1
 ·rw [if_pos z] at e4
  subst z
  obtain ⟨⟨xs,ws⟩,e5,e6⟩:=mpd e4
  cases e6
  refine ⟨ρ,δ,h,x,h1,R,S,e1,fun v H1 ⟨ρ1,T1,S1,r1⟩=>⟨ρ1,δ,h1,.int (-1),_,R.mono T1.toCh,S1,e3,fun u H2 ⟨ρ2,T2,S2,r2⟩=>⟨by cases r2;rfl,?_⟩⟩⟩
  obtain ⟨a,rfl,⟨vs,q,l⟩,_⟩:=gP S2 (r1.mono T2.toCh) e5
  refine ⟨a,vs,rfl,?_⟩
  generalize kc x=b at q k
  cases q with
  | l q=>exact .inl ⟨q,fun p hp=>k _ _ (bM.step (T1.trans T2) (.lv S2 l.rev hp))⟩
  | t q=>exact .inr ⟨q,fun p hp=>k _ _ (bM.step (T1.trans T2) (.tup S2 l.rev hp))⟩
 ·rw [if_neg z] at e4;cases e4
end
end Sm
namespace L2
open PySem PySem.Spec PyProof.Rows
section
variable {prog:Program} {w:World} {A:Around} {E:Value→Shared→Prop} {s:Shared}
open HT in
theorem uL {t b:Addr} {vs ws:List Value} {Q:Value→Shared→Prop} (ht:IsTup s.heap t vs.toArray) (hb:IsTup s.heap b ws.toArray) (hv:vs=[]) (h:Q (.ref b) s):wpAny (model prog w) A (binaryOp .Add (.ref t) (.ref b)) Q E s:=by
 obtain ⟨⟨cls,dd,data,sl⟩,ho,hc,n,hd⟩:=id ht
 obtain ⟨⟨cls2,dd2,data2,sl2⟩,ho2,hc2,n2,hd2⟩:=id hb
 simp only at hc hd hc2 hd2
 subst hc hd hc2 hd2
 exact concat_meets ⟨_,ho,rfl⟩ ⟨_,ho2,rfl⟩ noFill_tuple_add seq_tuple_add PySem.F.slot_tuple_add PySem.F.entry_tuple_add (PySem.F.args_tuple_add_2 _ _)
   (tuple_addW0 t b vs.toArray ws.toArray n n2 dd dd2 sl sl2 (by simp [hv])) ⟨ho,ho2,h⟩
end
section
variable {X:Cx}
theorem tW:OpR X (binaryOp .Add) (fun x y H Q=>∃a b ys,x=.ref a∧y=.ref b∧SqT X.K H a []∧SqT X.K H b ys∧Q (.ref b) H):=by
 intro pins s σ H x y v u Q I rx ry h
 obtain ⟨a,b,ys,rfl,rfl,ha,hb,q⟩:=h
 cases rx
 cases ry
 obtain ⟨its,r1,p1,_⟩:=I.tuple ha
 obtain ⟨its2,r2,p2,_⟩:=I.tuple hb
 exact uL p1 p2 (r1.iQ.mpr rfl) ⟨.ref b,H,I,rfl,q⟩
end
end L2
namespace Sm
open PySem L2 PySem.Spec PyProof.Rows
section
variable {X:Cx}
def aU (d e:D) (h:MH):Option (D×MH):=match d,e with
 | .tup [],.tup ys=>some (.tup ys,h)
 | d,e=>wH d e h
theorem aL:OpS X (binaryOp .Add) aU:=by
 intro pins s σ H x y v u Q I rx ry hh
 obtain ⟨ρ,h,d,e,z,h',S,rd,re,ee,k⟩:=hh
 unfold aU at ee
 split at ee
 ·cases ee
  have re0:=re
  cases rd with | tup h1 l1=>cases re with | tup h2 l2=>
  cases l1
  exact tW pins s σ H _ _ v u Q I rx ry ⟨_,_,_,rfl,rfl,h1.sq,h2.sq,k _ _ (.here S re0)⟩
 ·exact yB pins s σ H _ _ v u Q I rx ry ⟨ρ,h,_,_,z,h',S,rd,re,ee,k⟩
end
end Sm
namespace Sm
open PySem L2 PySem.Spec PyProof.Rows
section
variable {X:Cx}
def rR:Fn:=fun ds h=>match ds with
 | [.int i,.int j]=>some (.int (if j < i then j else i),h)
 | _=>none
theorem y9 (hc:X.calm=true):eC X (.builtin "min") rR:=by
 intro pins s σ H xs us Q I r hh
 obtain ⟨ρ,h,ds,z,h',S,l,ee,k⟩:=hh
 match ds,l,ee with
 | [],_,ee=>cases ee
 | [_],_,ee=>exact absurd ee (by unfold rR;split <;> simp_all)
 | _::_::_::_,_,ee=>exact absurd ee (by unfold rR;split <;> simp_all)
 | [d,e],l,ee=>
  obtain ⟨v,w,rfl,rd,re⟩:=rep2 l
  cases rd <;> first | (cases ee;done) | skip
  cases re <;> first | (cases ee;done) | skip
  cases ee
  exact ll hc pins s σ H _ us Q I r ⟨_,_,rfl,k _ _ (.here S (.int _))⟩
def nR:MFn:=fun d ds h=>(bp d h).bind fun kvs=>match ds with
 | [k]=>(fy k).map fun key=>((bc kvs key).getD .non,h)
 | [k,x]=>(fy k).map fun key=>((bc kvs key).getD x,h)
 | _=>none
theorem t4 (hu:X.A.units+1 < cLine):MtR X "dict.get" (rM X.K nR):=by
 intro pins s σ H x xs v us Q I rx rs hh
 obtain ⟨ρ,h,d,ds,z,h',S,rd,l,ee,k⟩:=hh
 obtain ⟨kvs,e1,e2⟩:=bnd ee
 obtain ⟨a,ws,rfl,ha,lk⟩:=cA S rd e1
 obtain rfl:v=Value.ref a:=rx
 match ds,l,e2 with
 | [],_,e2=>cases e2
 | [y],l,e2=>
  obtain ⟨key,e3,e4⟩:=mpd e2
  cases e4
  obtain ⟨yv,rfl,ry⟩:=rep1 l
  obtain ⟨u,rfl,ru⟩:=Vals.one rs
  have hy:=cW ry e3
  subst hy
  refine y8 hu I (eG.k ha) ru fun w' s' I' r'=>⟨_,H,I',r',k _ _ ?_⟩
  rcases lk.val key with ⟨q1,q2⟩ | ⟨d',v',q1,q2,q3⟩
  ·rw [q1,q2];exact .here S .non
  ·rw [q1,q2];exact .here S q3
 | [y,x0],l,e2=>
  obtain ⟨key,e3,e4⟩:=mpd e2
  cases e4
  obtain ⟨yv,xv,rfl,ry,rx0⟩:=rep2 l
  obtain ⟨u,u2,rfl,ru,ru2⟩:=Vals.two rs
  have hy:=cW ry e3
  subst hy
  refine uE hu I (eG.k ha) ru ru2 fun w' s' I' r'=>⟨_,H,I',r',k _ _ ?_⟩
  rcases lk.val key with ⟨q1,q2⟩ | ⟨d',v',q1,q2,q3⟩
  ·rw [q1,q2];exact .here S rx0
  ·rw [q1,q2];exact .here S q3
 | _::_::_::_,_,e2=>exact absurd e2 (by simp)
def wI (a b:EM):EM:=fun δ h=>(a δ h).bind fun p=>(oB p.1 p.2).bind fun c=>if c=true then some p else b δ p.2
end
end Sm
namespace L2
open PySem PySem.Spec PyProof.Rows
section
variable {X:Cx} {a b:Expr} {rest:List Expr} {pos:Pos} {ta tb:TE}
theorem yp (ha:PE X a ta) (hb:PE X (.BoolOp .Or (b::rest) pos) tb):PE X (.BoolOp .Or (a::b::rest) pos) (fun σ H Q=>ta σ H fun x H1=>∃c,wU X.K x H1 c∧if c=true then Q x H1 else tb σ H1 Q):=by
 intro pins s σ H Q I h
 refine BoolOp_or (thn (ha pins s σ H _ I h) fun v s1 ⟨x,H1,I1,r1,c,ht,q1⟩=>?_)
 refine thn (sC pins s1 σ H1 x v (fun c H2=>if c=true then Q x H2 else tb σ H2 Q) I1 r1 ⟨c,ht,q1⟩) fun c' s2 ⟨H2,I2,q2⟩=>?_
 cases c' with
 | false=>exact hb pins s2 σ H2 Q I2 q2
 | true=>exact ⟨x,H2,I2,r1,q2⟩
end
end L2
namespace Sm
open PySem L2 PySem.Spec PyProof.Rows
section
variable {X:Cx} {a b:Expr} {pos:Pos} {ma mb:EM}
theorem xN {rest:List Expr} (ha:SE X a ma) (hb:SE X (.BoolOp .Or (b::rest) pos) mb):SE X (.BoolOp .Or (a::b::rest) pos) (wI ma mb):=(yp ha hb).imp fun σ H Q ⟨ρ,δ,h,d,h',R,S,e,k⟩=>by
 obtain ⟨⟨x,h1⟩,e1,e2⟩:=bnd e
 obtain ⟨c,e3,e4⟩:=bnd e2
 refine ⟨ρ,δ,h,x,h1,R,S,e1,fun v H' ⟨ρ',T,S',r⟩=>⟨c,pP S' r e3,?_⟩⟩
 cases c with
 | false=>rw [if_neg (by simp)] at e4 ⊢;exact ⟨ρ',δ,h1,d,h',R.mono T,S',e4,fun v H2 p=>k v H2 (p.step T)⟩
 | true=>rw [if_pos rfl] at e4 ⊢;cases e4;exact k _ _ ⟨ρ',T,S',r⟩
end
end Sm
namespace L2
open PySem PySem.Spec PyProof.Rows
section
variable {X:Cx} {pins:List (Addr×Obj)} {σ:St} {H:Hp} {s:Shared} {a:Addr} {o:Obj} {kvs:List (Key×V)}
theorem Inv.freeze (I:Inv X pins σ H s) (e:H a=some (.dK kvs)) (ho:s.heap.get? a=some o):Inv X pins σ (upd H a (.frz o (.dK kvs))) s:=
 cZ (h':=s.heap) (t':=s.toks) I (by rw [e];trivial) ⟨rfl,fun _ _=>rfl⟩ ⟨o,ho⟩ ⟨ho,I.hok a _ e⟩
theorem Inv.lG (I:Inv X pins σ H s) (e:H a=some (.frz o (.dK kvs))) (h0:∀o u,X.H₀ a≠some (.frz o u)):Inv X pins σ (upd H a (.dK kvs)) s:=by
 have ne:∀{b:Addr} {u:HO},H b=some u→(∀o u',u≠.frz o u')→b≠a:=fun {b u} q n z=>by
  subst z;rw [e] at q;cases q;exact n _ _ rfl
 have nn:∀{b:Addr},H b=none→b≠a:=fun {b} q z=>by subst z;rw [e] at q;cases q
 refine ⟨I.ok,I.os,I.bare,⟨I.base.keep,I.base.slot,fun b ob q n hx=>?_,I.base.there,fun b xs q=>?_,fun b ob u q=>?_,fun b ps q=>?_⟩,I.loc,I.cell,?_,fun x c q=>?_,fun p hp=>?_,fun b u q=>?_,I.len⟩
 ·have:=I.base.free b ob q n hx
  rw [ai (nn this)];exact this
 ·have:=I.base.tups b xs q
  rw [ai (ne this (fun _ _ z=>by cases z))];exact this
 ·by_cases z:b=a
  ·subst z;exact absurd q (h0 _ _)
  ·rw [ai z];exact I.base.frzs b ob u q
 ·obtain ⟨more,this⟩:=I.base.tbls b ps q
  exact ⟨more,by rw [ai (ne this (fun _ _ z=>by cases z))];exact this⟩
 ·rw [ai (nn I.free)];exact I.free
 ·have:=I.freeC x c q
  rw [ai (nn this)];exact this
 ·obtain ⟨h1,h2,h3⟩:=I.pin p hp
  exact ⟨h1,by rw [ai (nn h2)];exact h2,h3⟩
 ·by_cases z:b=a
  ·subst z
   rw [ar] at q
   cases q
   exact (I.hok b _ e).2
  ·rw [ai z] at q
   exact (I.hok b u q).iD (fun _ _ _ q=>q) (fun c qc=>by rw [ai (ne qc (fun _ _ z=>by cases z))];exact qc) fun c xs qc=>by rw [ai (ne qc (fun _ _ z=>by cases z))];exact qc
theorem wu {P:Program} {w:World} {k:Key} {v:Value} (h:(au P w).is k v=true):RelV (kV k) v:=by
 rcases aT h with ⟨i,t,rfl,rfl⟩ | ⟨x,t,rfl,rfl⟩
 ·exact ⟨t,rfl⟩
 ·exact ⟨t,rfl⟩
end
def Itd (a:Addr) (o:Obj) (kvs:List (Key×V)):It:=
 ⟨fun i H=>H a=some (.frz o (.dK kvs))∧i < kvs.length,fun i H x H'=>H'=H∧∃k v,kvs[i]?=some (k,v)∧x=kV k,fun i H=>H a=some (.frz o (.dK kvs))∧kvs.length≤i⟩
theorem qt {X:Cx} {pins:List (Addr×Obj)} {σ:St} {H:Hp} {s:Shared} {a:Addr} {o:Obj} {kvs:List (Key×V)} {es:Array DictEntry} {ep:Nat} (I:Inv X pins σ H s) (ho:o.data=.dict es ep) (e:H a=some (.frz o (.dK kvs))):
  ∃vs,KV kvs vs∧s.heap.DictAt (au X.prog X.w) a vs ep:=by
 obtain ⟨h1,z,hd,vs,rel,ob,es',ep',e1,e2,e3,e4⟩:=I.hok a _ e
 rw [h1] at e1
 cases e1
 rw [ho] at e3
 cases e3
 exact ⟨vs,rel,o,es,h1,e2,ho,e4⟩
theorem qJ {P:Program} {w:World} {K:PySem.W.Frag} {tg:Expr} (a it:Addr) (o:Obj) (kvs:List (Key×V)) {es:Array DictEntry} {ep:Nat} (ho:o.data=.dict es ep):Turn P w K tg (Itd a o kvs) [it] it (fun i h=>h.IsKeyIter it a i kvs.length ep) where
 mem:=by simp
 obj:=fun i h st b hb=>by
  have e:b=it:=by simpa using hb
  subst e
  obtain ⟨ob,e,c,d⟩:=st
  exact ⟨ob,e,fun v z=>by rw [d] at z;cases z⟩
 keep:=fun i h h' st k=>st.at fun ob e=>k it (by simp) ob e
 item:=by
  intro X hP hw hK hc i pins s σ H E I hf st hg
  subst hP hw hK
  obtain ⟨hH,hlt⟩:=hg
  obtain ⟨vs,rel,hm⟩:=qt I ho hH
  obtain ⟨f0,f1,f2,f3,f4,f5⟩:=hf it (by simp)
  have hl:=rel.length
  obtain ⟨⟨k,u⟩,hx⟩:∃p,vs[i]?=some p:=⟨vs[i]'(by omega),List.getElem?_eq_getElem _⟩
  have hk:∃v,kvs[i]?=some (k,v):=by
   have h1:=congrArg (fun l=>l[i]?) rel.keys
   simp only [List.getElem?_map,hx,Option.map_some] at h1
   obtain ⟨p,e1,e2⟩:=Option.map_eq_some_iff.mp h1
   obtain ⟨k',v'⟩:=p
   cases e2
   exact ⟨v',e1⟩
  obtain ⟨v,hk⟩:=hk
  rw [hl] at st
  refine wpAny_pyNext_dict_item st hm hx fun key h' hkey st' sb=>?_
  have I1:Inv X pins σ H {s with heap:=h'}:=I.turned (t':=s.toks) (fun b o hb e=>(sb.2 b hb).trans e) f0 f1 f3 f4 f5
  obtain ⟨ob,e,c,d⟩:=id st'
  exact ⟨key,rfl,qk (s:={s with heap:=h'}) e c d (by decide) ⟨kV k,H,I1,wu hkey,⟨rfl,k,v,hk,rfl⟩,by rw [hl];exact st',fun b hb=>(hf b hb).1⟩⟩
 done:=by
  intro X hP hw hK hc i pins s σ H E I hf st hg
  subst hP hw hK
  obtain ⟨hH,hlt⟩:=hg
  obtain ⟨vs,rel,hm⟩:=qt I ho hH
  obtain ⟨f0,f1,f2,f3,f4,f5⟩:=hf it (by simp)
  have hl:=rel.length
  rw [hl] at st
  exact wpAny_pyNext_dict_end (I.ok.hd hc) st hm (List.getElem?_eq_none (by omega)) fun h' eb=>⟨rfl,I.turned (t':=s.toks) (fun b o hb e=>eb b o hb e) f0 f1 f3 f4 f5⟩
 self:=fun _ _ _ _ _ st h=>wpAny_pyIter_keyiter st h
theorem vX {X:Cx} {tg l:Expr} {tl:TE} (hl:PE X l tl):PI X tg l (fun σ H R=>tl σ H fun x H1=>∃a kvs,x=.ref a∧H1 a=some (.dK kvs)∧∀o,R (Itd a o kvs) (upd H1 a (.frz o (.dK kvs)))):=by
 intro pins s σ H R I h
 refine thn (hl pins s σ H _ I h) fun v s1 ⟨x,H1,I1,r1,q1⟩=>?_
 obtain ⟨a,kvs,e,hH,q⟩:=q1
 subst e
 cases r1
 obtain ⟨z,hd,vs,rel,ob,es,ep,e1,e2,e3,e4⟩:=fc I1.hok hH
 have hl:=rel.length
 refine wpAny_pyIter_dict (knd:=au X.prog X.w) (kvs:=vs) (ep:=ep) hd ⟨ob,es,e1,e2,e3,e4⟩ ?_
 have If:=I1.freeze hH e1
 have hne:s1.heap.objs.size≠a:=Nat.ne_of_gt (Heap.lt_size e1)
 refine ⟨s1.heap.objs.size,[s1.heap.objs.size],_,_,_,rfl,If.kept (t':=s1.toks) fun b o e=>Heap.get?_push_of_some _ e,qJ a _ ob kvs e3,⟨_,Heap.get?_push_size _ rfl,rfl,by rw [hl];rfl⟩,fun b hb=>?_,q ob⟩
 have e:b=s1.heap.objs.size:=by simpa using hb
 subst e
 exact I1.kd (Nat.le_refl _) (by rw [ai hne];exact I1.hok.fresh (Nat.le_refl _))
end L2
namespace Sm
open PySem L2 PySem.Spec PyProof.Rows
def bJ:List (Key×Int)→Key→Option Int
 | [],_=>none
 | (j,i)::r,k=>if j=k then some i else bJ r k
def dg:List (Key×Int)→Key→Int→List (Key×Int)
 | [],k,n=>[(k,n)]
 | (j,i)::r,k,n=>if j=k then (j,n)::r else (j,i)::dg r k n
def dI (is:List (Key×Int)):List (Key×D):=is.map fun p=>(p.1,D.int p.2)
def vI (is:List (Key×Int)):List (Key×V):=is.map fun p=>(p.1,V.int p.2)
def intsOf:List (Key×D)→Option (List (Key×Int))
 | []=>some []
 | (k,.int i)::r=>(intsOf r).map fun is=>(k,i)::is
 | _=>none
theorem g8:∀{ks:List (Key×D)} {is:List (Key×Int)},intsOf ks=some is→ks=dI is
 | [],_,e=>by cases e;rfl
 | (k,d)::r,is,e=>by
  cases d <;> first | (cases e;done) | skip
  obtain ⟨js,e1,e2⟩:=mpd (show (intsOf r).map _=some is from e)
  cases e2
  rw [g8 e1]
  rfl
theorem tX:∀(is:List (Key×Int)),intsOf (dI is)=some is
 | []=>rfl
 | (k,i)::r=>by show (intsOf (dI r)).map _=_;rw [tX r];rfl
theorem kH {K:PySem.W.Frag} {ρ:Ad} {H:Hp}:∀(is:List (Key×Int)),RepK K ρ H (vI is) (dI is)
 | []=>.nil
 | (k,i)::r=>.cons (.int i) (kH r)
theorem lS {K:PySem.W.Frag} {ρ:Ad} {H:Hp}:∀{us:List (Key×V)} {is:List (Key×Int)},RepK K ρ H us (dI is)→us=vI is
 | _,[],.nil=>rfl
 | _,(k,i)::r,.cons q l=>by cases q;rw [lS l];rfl
theorem lC:∀(is:List (Key×Int)) (k:Key),c5 (vI is) k=(bJ is k).map V.int
 | [],k=>rfl
 | (j,i)::r,k=>by
  show c5 ((j,V.int i)::vI r) k=_
  unfold bJ
  by_cases z:j=k
  ·rw [if_pos z];simp [c5,z]
  ·rw [if_neg z,eI z];exact lC r k
theorem jf:∀(is:List (Key×Int)) (k:Key) (n:Int),k∉is.map (·.1)→dg is k n=is++[(k,n)]
 | [],_,_,_=>rfl
 | (j,i)::r,k,n,h=>by
  unfold dg
  rw [if_neg fun z=>h (by rw [z];simp),jf r k n fun z=>h (by rw [List.map_cons];exact List.mem_cons_of_mem _ z)]
  rfl
theorem vH (is:List (Key×Int)) (k:Key) (n:Int) (nd:(is.map (·.1)).Nodup):putK (vI is) k (.int n)=vI (dg is k n):=by
 unfold putK
 by_cases h:k∈is.map (·.1)
 ·rw [if_pos]
  ·skip
   induction is with
   | nil=>cases h
   | cons p r ih=>
    obtain ⟨j,i⟩:=p
    rw [List.map_cons,List.nodup_cons] at nd
    unfold dg
    by_cases z:j=k
    ·subst z
     rw [if_pos rfl]
     show (if j=j then (j,V.int n) else (j,V.int i))::(vI r).map _=(j,V.int n)::vI r
     rw [if_pos rfl]
     congr 1
     have:∀p∈vI r,(if p.1=j then (p.1,V.int n) else p)=p:=fun p hp=>by
      obtain ⟨q,hq,rfl⟩:=List.mem_map.mp hp
      rw [if_neg fun z=>nd.1 (List.mem_map.mpr ⟨q,hq,z⟩)]
     rw [List.map_congr_left this,List.map_id']
    ·rw [if_neg z]
     show (if j=k then (j,V.int n) else (j,V.int i))::(vI r).map _=(j,V.int i)::vI (dg r k n)
     rw [if_neg z]
     congr 1
     exact ih nd.2 ((List.mem_cons.mp h).resolve_left fun e=>z e.symm)
  ·obtain ⟨p,hp,e⟩:=List.mem_map.mp h
   exact List.any_eq_true.mpr ⟨(p.1,V.int p.2),List.mem_map.mpr ⟨p,hp,rfl⟩,decide_eq_true e⟩
 ·rw [if_neg,jf is k n h]
  ·show vI is++[(k,V.int n)]=_
   unfold vI
   rw [List.map_append]
   rfl
  ·intro z
   obtain ⟨p,hp,e⟩:=List.any_eq_true.mp z
   obtain ⟨q,hq,rfl⟩:=List.mem_map.mp hp
   exact h (List.mem_map.mpr ⟨q,hq,of_decide_eq_true e⟩)
theorem dw:∀(is:List (Key×Int)) (k:Key) (n:Int),(k∈is.map (·.1)∧(dg is k n).map (·.1)=is.map (·.1))∨(k∉is.map (·.1)∧(dg is k n).map (·.1)=is.map (·.1)++[k])
 | [],k,n=>.inr ⟨by simp,rfl⟩
 | (j,i)::r,k,n=>by
  unfold dg
  by_cases z:j=k
  ·rw [if_pos z];exact .inl ⟨by rw [←z];simp,rfl⟩
  ·rw [if_neg z]
   rcases dw r k n with ⟨h1,h2⟩ | ⟨h1,h2⟩
   ·exact .inl ⟨List.mem_cons_of_mem _ h1,by rw [List.map_cons,h2];rfl⟩
   ·exact .inr ⟨fun m=>(List.mem_cons.mp m).elim (fun e=>z e.symm) h1,by rw [List.map_cons,h2];rfl⟩
theorem l3 {is:List (Key×Int)} {k:Key} {n:Int} (nd:(is.map (·.1)).Nodup):((dg is k n).map (·.1)).Nodup:=by
 rcases dw is k n with ⟨_,e⟩ | ⟨h,e⟩
 ·rw [e];exact nd
 ·rw [e,List.nodup_append]
  exact ⟨nd,by simp,fun a ha b hb z=>h (by rw [←List.mem_singleton.mp hb,←z];exact ha)⟩
theorem tD (is:List (Key×Int)) (k:Key) (n:Int):(dg is k n).length≤is.length+1:=by
 rcases dw is k n with ⟨_,e⟩ | ⟨_,e⟩
 ·have:=congrArg List.length e;simp at this;omega
 ·have:=congrArg List.length e;simp at this;omega
def fS (acc:List (Key×Int)) (k:Key) (e:Int):Int:=match bJ acc k with
 | some g=>if e < g then e else g
 | none=>e
def aN (is js:List (Key×Int)):List (Key×Int):=is.foldl (fun acc p=>dg acc p.1 (fS acc p.1 p.2)) js
def eU (e b w:Nat):SM:=fun δ h=>match δ[e]?,δ[b]? with
 | some (some (.ob n)),some (some (.ob m))=>match h[n]?,h[m]? with
  | some (.dct ks),some (.dct bs)=>(intsOf ks).bind fun is=>(intsOf bs).bind fun js=>
   if n≠m∧is.length+js.length < sizeLine then some (.nx,δ.set w none,h.set m (.dct (dI (aN is js)))) else none
  | _,_=>none
 | _,_=>none
theorem pK:∀{is:List (Key×Int)} {i:Nat} {k:Key} {n:Int},(is.map (·.1)).Nodup→is[i]?=some (k,n)→bJ is k=some n
 | (j,m)::r,0,k,n,nd,e=>by
  have e:(j,m)=(k,n):=by simpa using e
  cases e
  unfold bJ;rw [if_pos rfl]
 | (j,m)::r,i+1,k,n,nd,e=>by
  rw [List.map_cons,List.nodup_cons] at nd
  have e:r[i]?=some (k,n):=by simpa using e
  have hm:=List.mem_of_getElem? e
  unfold bJ
  rw [if_neg fun z=>nd.1 (List.mem_map.mpr ⟨_,hm,z.symm⟩)]
  exact pK nd.2 e
abbrev Af:List V→Hp→VK→Prop:=fun xs H Q=>∃i j,xs=[.int i,.int j]∧Q (.int (if j < i then j else i)) H
abbrev sF (e b w:Nat):TS:=xy (fun σ H R=>i0 e σ H fun x H1=>∃a kvs,x=.ref a∧H1 a=some (.dK kvs)∧∀o,R (Itd a o kvs) (upd H1 a (.frz o (.dK kvs)))) (ql w)
 (sX (i0 b) (i0 w) (tCB Af (sI (sG (i0 b) (i0 w) (sH (i0 e) (i0 w))) (sI (sH (i0 e) (i0 w)) zF))))
theorem gd {H:Hp} {a:Addr} {o u:HO}:upd (upd H a o) a u=upd H a u:=by
 funext b
 by_cases z:b=a
 ·subst z;rw [ar,ar]
 ·rw [ai z,ai z,ai z]
theorem mQ {H:Hp} {a:Addr} {o:HO} (e:H a=some o):upd H a o=H:=by
 funext b
 by_cases z:b=a
 ·subst z;rw [ar,e]
 ·rw [ai z]
theorem sm {H:Hp} {a b:Addr} {o u:HO} (n:a≠b):upd (upd H a o) b u=upd (upd H b u) a o:=by
 funext c
 by_cases z:c=a
 ·subst z;rw [ai n,ar,ar]
 ·by_cases z2:c=b
  ·subst z2;rw [ar,ai z,ar]
  ·rw [ai z2,ai z,ai z,ai z2]
theorem rD (acc:List (Key×Int)) (k:Key) (n:Int):(if n < ((bJ acc k).getD n) then n else ((bJ acc k).getD n))=fS acc k n:=by
 unfold fS
 cases bJ acc k with
 | none=>simp
 | some g=>rfl
section
variable {X:Cx}
theorem oG {st:Stmt} {e b w:Nat} (hwe:w≠e) (hwb:w≠b) (hN:w < X.N.length) (hps:PS X st (sF e b w)):SS X st (eU e b w):=by
 intro pins s σ H D I hh
 obtain ⟨ρ,δ,h,fl,δ',h',R,S,ee,k⟩:=hh
 unfold eU at ee
 split at ee
 ·rename_i n m en em
  split at ee
  ·rename_i ks bs hn hm
   obtain ⟨is,e1,e2⟩:=bnd ee
   obtain ⟨js,e3,e4⟩:=bnd e2
   by_cases c:n≠m∧is.length+js.length < sizeLine
   ·rw [if_pos c] at e4
    cases e4
    have:=g8 e1
    subst this
    have:=g8 e3
    subst this
    obtain ⟨v,ev,rv⟩:=R.at_ e _ en
    obtain ⟨u,eu,ru⟩:=R.at_ b _ em
    cases rv with
    | ob ra=>cases ru with
     | ob rb=>
      rename_i a b'
      obtain ⟨us,Ha,la⟩:=S.at_ n a _ ra hn
      obtain ⟨ws,Hb,lb⟩:=S.at_ m b' _ rb hm
      have:=lS la
      subst this
      have:=lS lb
      subst this
      have hab:b'≠a:=fun z=>c.1 ((List.getElem?_inj (List.getElem?_eq_some_iff.mp ra).1 S.nd).mp (by rw [ra,rb,z]))
      have nda:(is.map (·.1)).Nodup:=by
       obtain ⟨_,_,vs,rel,ob,es,ep,q1,q2,q3,q4,q5,q6⟩:=fc I.hok Ha
       have:=rel.keys
       rw [show (vI is).map (·.1)=is.map (·.1) by unfold vI;rw [List.map_map];rfl] at this
       rw [this];exact q6
      have ndb:(js.map (·.1)).Nodup:=by
       obtain ⟨_,_,vs,rel,ob,es,ep,q1,q2,q3,q4,q5,q6⟩:=fc I.hok Hb
       have:=rel.keys
       rw [show (vI js).map (·.1)=js.map (·.1) by unfold vI;rw [List.map_map];rfl] at this
       rw [this];exact q6
      have h0:∀o u,X.H₀ a≠some (.frz o u):=fun o u z=>by have:=I.base.frzs a o u z;rw [Ha] at this;cases this
      let D':Ends:={D with nx:=fun σ' H'=>∃o,H' a=some (.frz o (.dK (vI is)))∧D.nx σ' (upd H' a (.dK (vI is)))}
      refine thn (hps pins s σ H D' I ?_) fun f s' q=>?_
      rotate_left
      ·cases f with
       | next=>obtain ⟨σ',H',I',o,q1,q2⟩:=q;exact ⟨σ',_,I'.lG q1 h0,q2⟩
       | brk=>exact q
       | cont=>exact q
       | ret _=>exact q
      refine ⟨.ref a,ev,a,vI is,rfl,Ha,fun o=>?_⟩
      have hlen:(vI is).length=is.length:=by unfold vI;rw [List.length_map]
      refine ⟨fun i mm σ' H'=>mm=is.length-i∧i≤is.length∧H'=upd (upd H a (.frz o (.dK (vI is)))) b' (.dK (vI (aN (is.take i) js)))∧((aN (is.take i) js).map (·.1)).Nodup∧(aN (is.take i) js).length≤js.length+i∧σ'.length=σ.length∧∀j,j≠w→σ'[j]?=σ[j]?,
       ⟨is.length,by simp,Nat.zero_le _,(mQ (by rw [ai hab,Hb];rfl)).symm,ndb,by rw [List.take_zero];exact Nat.le_refl _,rfl,fun _ _=>rfl⟩,?_⟩
      rintro i mm σ' H' ⟨rfl,hi,rfl,nd,hz,hl,hσ⟩
      have Hfa:∀u,(upd (upd H a (.frz o (.dK (vI is)))) b' u) a=some (.frz o (.dK (vI is))):=fun u=>by rw [ai (Ne.symm hab),ar]
      by_cases hlt:i < is.length
      ·refine .inr ⟨⟨Hfa _,by rw [hlen];exact hlt⟩,fun σ2 H2=>H2=upd (upd H a (.frz o (.dK (vI is)))) b' (.dK (vI (aN (is.take (i+1)) js)))∧((aN (is.take (i+1)) js).map (·.1)).Nodup∧(aN (is.take (i+1)) js).length≤js.length+(i+1)∧σ2.length=σ.length∧∀j,j≠w→σ2[j]?=σ[j]?,
        fun σ2 H2 q=>⟨is.length-(i+1),by omega,rfl,hlt,q⟩,fun x H2 y=>?_⟩
       obtain ⟨rfl,ky,vv,hk,rfl⟩:=y
       obtain ⟨p,hp⟩:∃p,is[i]?=some p:=⟨_,List.getElem?_eq_getElem hlt⟩
       obtain ⟨k1,n1⟩:=p
       have hk1:(vI is)[i]?=some (k1,V.int n1):=by unfold vI;rw [List.getElem?_map,hp];rfl
       rw [hk1] at hk
       cases hk
       have htk:aN (is.take (i+1)) js=dg (aN (is.take i) js) ky (fS (aN (is.take i) js) ky n1):=by
        have:is.take (i+1)=is.take i++[(ky,n1)]:=by rw [List.take_add_one,hp];rfl
        rw [this]
        unfold aN
        rw [List.foldl_append]
        rfl
       show sX _ _ _ _ (σ'.set w (some (kV ky))) _
       have hw:w < σ'.length:=by rw [hl,I.len];exact hN
       have ew:(σ'.set w (some (kV ky)))[w]?=some (some (kV ky)):=List.getElem?_set_self hw
       have ee':(σ'.set w (some (kV ky)))[e]?=some (some (.ref a)):=by rw [List.getElem?_set_ne hwe,hσ e (Ne.symm hwe)];exact ev
       have eb:(σ'.set w (some (kV ky)))[b]?=some (some (.ref b')):=by rw [List.getElem?_set_ne hwb,hσ b (Ne.symm hwb)];exact eu
       generalize hacc:aN (is.take i) js=acc at*
       have Hb2:(upd (upd H a (.frz o (.dK (vI is)))) b' (.dK (vI acc))) b'=some (.dK (vI acc)):=ar
       have ge:eG (upd (upd H a (.frz o (.dK (vI is)))) b' (.dK (vI acc))) a (kV ky) (some (.int n1)):=.inl ⟨vI is,ky,.inr ⟨o,Hfa _⟩,rfl,by rw [lC,pK nda hp];rfl⟩
       refine ⟨.ref b',eb,b',rfl,.inl ⟨_,.inl Hb2⟩,kV ky,ew,.ref a,ee',kV ky,ew,a,.int n1,rfl,ge,_,eG.k Hb2,?_⟩
       refine ⟨.ref a,ee',kV ky,ew,a,.int n1,rfl,ge,?_⟩
       refine ⟨(bJ acc ky).getD n1,n1,?_,?_⟩
       ·rw [lC]
        cases bJ acc ky <;> rfl
       rw [rD]
       refine ⟨.ref b',eb,kV ky,ew,b',_,rfl,sg.k Hb2 (by unfold vI;rw [List.length_map];omega),?_⟩
       refine ⟨?_,?_,?_,by rw [List.length_set];exact hl,fun j hj=>by rw [List.getElem?_set_ne (Ne.symm hj)];exact hσ j hj⟩
       ·rw [gd,vH _ _ _ nd,htk]
       ·rw [htk];exact l3 nd
       ·rw [htk];exact Nat.le_trans (tD _ _ _) (by omega)
      ·refine .inl ⟨⟨Hfa _,by rw [hlen];omega⟩,o,Hfa _,?_⟩
       have hii:i=is.length:=by omega
       subst hii
       rw [List.take_length,sm hab,gd,mQ Ha]
       have hmb:=List.mem_of_getElem? rb
       refine k ρ _ (Stp.wrote S hmb) (S.wrote rb ⟨_,ar,kH _⟩) σ' ⟨by rw [hl,List.length_set];exact R.len,fun j d ej=>?_⟩
       by_cases z:j=w
       ·subst z
        rw [List.getElem?_set] at ej
        simp at ej
       ·rw [List.getElem?_set_ne (Ne.symm z)] at ej
        obtain ⟨v,q1,q2⟩:=R.at_ j d ej
        exact ⟨v,by rw [hσ j z];exact q1,q2.mono (Stp.wrote S hmb).toCh⟩
   ·rw [if_neg c] at e4;cases e4
  ·cases ee
 ·cases ee
end
theorem uQ:bootBuiltins "min"=some (.builtin "min"):=by decide+kernel
end Sm
namespace Sm
open PySem L2 PySem.Spec PyProof.Rows
section
variable {X:Cx} {g:GM} {mt:TM} {ma:EM}
def pf:Key→Option D
 | .inl i=>some (.int i)
 | .inr x=>if PyData.strOk x=true then some (.str x) else none
end
end Sm
namespace L2
open PySem PySem.Spec PyProof.Rows
section
variable {X:Cx}
end
end L2
namespace L2
open PySem PySem.Spec PyProof.Rows
section
variable {X:Cx}
end
end L2
namespace Sm
open PySem L2 PySem.Spec PyProof.Rows
section
variable {X:Cx}
end
end Sm
namespace Sm
open PySem L2 PySem.Spec PyProof.Rows
section
variable {α:Type} {K:PySem.W.Frag} {A:Ac α} {l:Addr} {g:GM} {mt:TM} {m:MK α}
mutual
theorem Rep.calm {ρ ρ':Ad} {H:Hp} (hs:∀a,ρ'.has a→ρ.has a):∀{v:V} {d:D},Rep K ρ H v d→clD 0 d=true→Rep K ρ' H v d
 | _,_,.non,_=>.non
 | _,_,.bl b,_=>.bl b
 | _,_,.int i,_=>.int i
 | _,_,.str h,_=>.str h
 | _,_,.ty n,_=>.ty n
 | _,_,.tup h l,c=>.tup (h.elim (fun ⟨a,n⟩=>.inl ⟨a,fun z=>n (hs _ z)⟩) .inr) (RepL.calm hs l (by simpa [clD] using c))
 | _,_,.lv h n l,c=>.lv h (fun z=>n (hs _ z)) (RepL.calm hs l (by simpa [clD] using c))
 | _,_,.ro h l,c=>.ro (h.elim (fun ⟨a,n⟩=>.inl ⟨a,fun z=>n (hs _ z)⟩) .inr) (RepL.calm hs l (by simpa [clD] using c))
 | _,_,.dv h n l,c=>.dv h (fun z=>n (hs _ z)) (RepK.calm hs l (by simpa [clD] using c))
 | _,_,.ob e,c=>by simp [clD] at c
theorem RepL.calm {ρ ρ':Ad} {H:Hp} (hs:∀a,ρ'.has a→ρ.has a):∀{vs:List V} {ds:List D},RepL K ρ H vs ds→clL 0 ds=true→RepL K ρ' H vs ds
 | _,_,.nil,_=>.nil
 | _,_,.cons r l,c=>by
  simp [clL] at c
  exact .cons (Rep.calm hs r c.1) (RepL.calm hs l c.2)
theorem RepK.calm {ρ ρ':Ad} {H:Hp} (hs:∀a,ρ'.has a→ρ.has a):∀{vs:List (Key×V)} {ds:List (Key×D)},RepK K ρ H vs ds→clK 0 ds=true→RepK K ρ' H vs ds
 | _,_,.nil,_=>.nil
 | _,_,.cons r l,c=>by
  simp [clK] at c
  exact .cons (Rep.calm hs r c.1) (RepK.calm hs l c.2)
end
end
section
variable {X:Cx} {k v tg iter:Expr} {pos:Pos} {mk mv:EM} {mt:TM} {g:GM} {N':List Str} {caps:List (Option Nat)} {scope:Scope} {ifs:List Expr} {mi:IM}
end
end Sm
namespace L2
open PySem PySem.Spec PyProof.Rows
theorem j8:typeLookup (.type "tuple") "keys"=pure none:=by rw [typeLookup_type,builtinLookup_eq_fast];kernel_rfl
theorem wj {prog:Program} {w:World} {A:Around} {E:Value→Shared→Prop} {s:Shared} {a:Addr} {xs:Array Value} {k:Nat} {sl:Array (Option Value)} {Q:Option Value→Shared→Prop}
  (hx:s.heap.get? a=some {cls:=.type "tuple",dict:=none,data:=.seq xs k,slots:=sl}) (hA:A.handled=none)
  (h:∀h' tk,(∀b o,s.heap.get? b=some o→h'.get? b=some o)→Q none {s with heap:=h',toks:=tk}):
  wpAny (model prog w) A (getAttr? (.ref a) "keys") Q E s:=by
 obtain ⟨hp,g,d,tk,os⟩:=s
 have hT:∀tk',(⟨hp,g,d,tk',os⟩:Shared).TypeIs (.ref a) "tuple":=fun _=>⟨_,hx,rfl⟩
 have f1:=sub_AttributeError
 have f3:=F.slot_tuple_getattribute.lookup
 have f4:=F.slot_tuple_getattribute.bind (.ref a)
 have f5:=am_tuple_getattr_none
 unfold getAttr? getAttrBy? getAttrBy
 repeat (any_goals (first | assumption | exact hT _ | ((with_reducible show wpAny _ _ (call (Value.builtin "tuple.__getattribute__") _ _) _ _ _);refine call_meets F.slot_tuple_getattribute (hT _) am_entry_tuple_getattribute (F.args_tuple_getattribute_2 _ _) (meets_getattribute_miss_tuple a xs k sl "keys" _ j8 (by decide+kernel) (by decide)) ⟨hx,hA,fun h' tk' e hx'=>?_⟩) | wp_step))
 obtain ⟨t',u',he⟩:=hx'.there
 have hE:∀tk',(⟨h',g,d,tk',os⟩:Shared).TypeIs (.ref e) "AttributeError":=fun _=>⟨_,he,rfl⟩
 show wpAny _ _ (getattributeRaised _ _ _ _ _ _ _) _ _ _
 unfold getattributeRaised
 repeat (any_goals (first | assumption | exact hE _ | wp_step))
 exact h _ _ hx'.keeps
section
variable {X:Cx}
theorem SqT.off {K:PySem.W.Frag} {H:Hp} {a d:Addr} {ys:List V} {o:HO} (h:SqT K H a ys) (hd:H d=none):SqT K (upd H d o) a ys:=by
 rcases h with h | h
 ·rcases h with h | ⟨u,h⟩
  ·exact .inl (.inl (by rw [ai (ax h hd)];exact h))
  ·exact .inl (.inr ⟨u,by rw [ai (ax h hd)];exact h⟩)
 ·exact .inr h
theorem pz {A:Around} {pins:List (Addr×Obj)} {σ:St} {H:Hp} {p d it:Addr} {ys:List V} {kvs:List (Key×V)} {R:Result→Shared→Prop} (hA:A.handled=none) (hp:SqT X.K H p ys) (hr:gI X.K H ys kvs) (hl:ys.length≤1000000) (hd:H d=none)
  (hit:it≠X.env.locals∧(it∈X.ex∨X.s₀.heap.objs.size≤it)∧(∀x c,X.env.cells.lookup x=some c→c≠it)∧∀q∈X.pn++pins,q.1≠it) (hin:H it=none) (hid:it≠d)
  (h:∀s',Inv X pins σ (upd H d (.dK (aC [] kvs))) s'→R (.ok (.ret .none)) s'):∀(n i:Nat) (s:Shared),kvs.length-i=n→i≤kvs.length→s.heap.IsTupleIter it p i→Inv X pins σ (upd H d (.dK (aC [] (kvs.take i)))) s→
   codeAny (model X.prog X.w) A (.builtin "dict.update.loop" ⟨[.ref d,.ref it,rawInt i,.none],[]⟩) R s:=by
 have hlen:=Paired.length hr
 have hsz:sizeLine≥1000001:=by decide
 intro n
 induction n with
 | zero=>
  intro i s hn hi st I
  have ei:i=kvs.length:=by omega
  refine codeAny_builtin bU ?_
  rw [Around.under_plainId aM _]
  obtain ⟨its,rv,pl,hz⟩:=I.tuple (hp.off (o:=.dK (aC [] (kvs.take i))) hd)
  have hl':=rv.length
  show wpAny _ _ (pyNext (.ref it) >>=_) _ _ s
  refine wpAny_bind (wpAny_pyNext_tuple_end hA st (show s.heap.IsTuple p its.toArray from pl) (by simp;omega) fun h' eb=>?_)
  show wpAny _ _ (Builtin.Dict.addKeywords d [] >>=fun _=>ret .none) _ _ _
  have I':=I.turned (t':=s.toks) (h':=h') (it:=it) (fun b o hb e=>eb b o hb e) (by rw [ai hid];exact hin) hit.1 hit.2.1 hit.2.2.1 hit.2.2.2
  refine wpAny_bind (wpAny_pure (wpAny_pure ?_))
  rw [ei,List.take_length] at I'
  exact h _ I'
 | succ n ih=>
  intro i s hn hi st I
  have hi':i < kvs.length:=by omega
  refine codeAny_builtin bU ?_
  rw [Around.under_plainId aM _]
  obtain ⟨its,rv,pl,hz⟩:=I.tuple (hp.off (o:=.dK (aC [] (kvs.take i))) hd)
  have hyi:ys[i]?=some (ys[i]'(by omega)):=List.getElem?_eq_getElem _
  generalize ys[i]'(by omega)=y at hyi
  obtain ⟨u,hu,ru⟩:=rv.get hyi
  obtain ⟨kv,hk,a,ea,hta⟩:=Paired.at hr hyi
  subst ea
  cases (show u=Value.ref a from ru)
  show wpAny _ _ (pyNext (.ref it) >>=_) _ _ s
  refine wpAny_bind (wpAny_pyNext_tuple_item st (show s.heap.IsTuple p its.toArray from pl) (x:=.ref a) (by simpa using hu) fun h' st' sb=>?_)
  have I':=I.turned (t':=s.toks) (h':=h') (it:=it) (fun b o hb e=>(sb.2 b hb).trans e) (by rw [ai hid];exact hin) hit.1 hit.2.1 hit.2.2.1 hit.2.2.2
  have hta':SqT X.K (upd H d (.dK (aC [] (kvs.take i)))) a [kV kv.1,kv.2]:=hta.off hd
  obtain ⟨its2,rv2,pt,hz2⟩:=I'.tuple hta'
  obtain ⟨ku,vu,rfl,rk,rw2⟩:=vals2 rv2
  obtain ⟨ot,ht1,ht2,nt,ht3⟩:=id pt
  dsimp only
  refine wpAny_bind (wpAny_holding ?_)
  refine wpAny_bind (wpAny_tryCatch ?_)
  unfold Builtin.Dict.pairItems
  refine wpAny_bind (wpAny_typeOf pt.typeIs ?_)
  rw [if_pos (by decide)]
  refine wpAny_bind (wpAny_seqItems ht1 ht3 (wpAny_pure ?_))
  show wpAny _ _ (holding [ku,vu] (dictSet d ku vu)) _ _ _
  refine wpAny_holding ?_
  have ed:upd H d (.dK (aC [] (kvs.take i))) d=some (.dK (aC [] (kvs.take i))):=ar
  obtain ⟨z,hdm,vs,rel,dd⟩:=fc I'.hok ed
  have hz3:vs.length≤sizeLine:=by rw [←rel.length];exact z
  unfold dictSet
  refine wpAny_holding (wpAny_bind ((au X.prog X.w).pyHash (cX rk) ?_))
  refine wpAny_dictSetHashed_pairs (hsz:=hz3) (cX rk) dd fun h2 dd' hs=>?_
  have he:∃q,h2.get? d=some q:=let ⟨q,_,_,hq,_⟩:=dd';⟨q,hq⟩
  have e2:putK (aC [] (kvs.take i)) kv.1 kv.2=aC [] (kvs.take (i+1)):=by
   rw [List.take_succ,hk,←ix]
   rfl
  have hl2:(putK (aC [] (kvs.take i)) kv.1 kv.2).length≤sizeLine:=by
   rw [e2]
   have:=cy (kvs.take (i+1)) []
   rw [List.length_take] at this
   simp only [List.length_nil] at this
   omega
  have I2:=cZ (t':=s.toks+1) I' (by rw [ed];exact True.intro) hs he (hZ (H':=upd (upd H d (.dK (aC [] (kvs.take i)))) d (.dK (putK (aC [] (kvs.take i)) kv.1 kv.2))) hl2 hdm (rel.put kv.1 rw2) dd')
  rw [gd,e2] at I2
  have hc:((i:Int)+1)=((i+1:Nat):Int):=by push_cast;rfl
  rw [hc]
  refine wpAny_pure ⟨plainId_quiet aM _,ih (i+1) _ (by omega) (by omega) ?_ I2⟩
  obtain ⟨oi,e1,e2,e3⟩:=st'
  exact ⟨oi,hs.extBut _ _ hid e1,e2,e3⟩
theorem iI (hc:X.calm=true):cJ X (.type "dict") (fun xs H Q=>∃p ys kvs,xs=[.ref p]∧SqT X.K H p ys∧gI X.K H ys kvs∧ys.length≤1000000∧∀q,H q=none→Q (.ref q) (upd H q (.dK (aC [] kvs)))):=by
 intro pins s σ H xs us Q I r h
 obtain ⟨p,ys,kvs,rfl,hp,hr,hl,q⟩:=h
 obtain ⟨u,rfl,ru⟩:=vals1 r
 cases (show u=Value.ref p from ru)
 refine callType_codes (Q₁:=fun obj s₁=>obj=.ref s.heap.objs.size∧s₁={s with heap:=s.heap.push {cls:=.type "dict",data:=.dict #[]}}) F.kt_called_dict (F.kt_typeCall_dict_1 _) F.entry_dict_init (kt_code_dict_new _ ⟨rfl,rfl⟩) ?_
 rintro obj s₁ ⟨rfl,rfl⟩
 have hd:H s.heap.objs.size=none:=I.fresh
 have hnew:(s.heap.push {cls:=.type "dict",data:=.dict #[]}).DictOf (au X.prog X.w) s.heap.objs.size []:=Heap.DictOf.new s.heap
 have I1:Inv X pins σ (upd H s.heap.objs.size (.dK [])) {s with heap:=s.heap.push {cls:=.type "dict",data:=.dict #[]}}:=I.laid (t':=s.toks) (fun _ _ q=>Heap.get?_push_of_some _ q) (Nat.le_refl _) (fe s.heap I.big)
 refine ⟨hnew.typeIs,F.args_dict_init_2 _ _,?_⟩
 obtain ⟨its,rv,⟨⟨cl,dc,da,sl⟩,hx,hcl,⟨n,hdt⟩,hdc⟩,hz⟩:=I1.xu (hp.off (o:=.dK []) hd)
 dsimp only at hcl hdt hdc
 subst hcl hdt hdc
 have hA:X.A.handled=none:=I.ok.hd hc
 unfold Builtin.«dict.__init__»
 refine wpAny_bind ?_
 unfold Builtin.Dict.selfAndRest
 refine wpAny_bind (wpAny_notOrdered_dict hnew.typeIs ?_)
 show wpAny _ _ (pure (s.heap.objs.size,[Value.ref p])) _ _ _
 refine wpAny_pure ?_
 show wpAny _ _ (Builtin.Dict.updateFrom "dict.__init__" s.heap.objs.size (.ref p) [] .none) _ _ _
 unfold Builtin.Dict.updateFrom
 refine wpAny_bind (wpAny_typeOf (T:="tuple") ⟨_,hx,rfl⟩ ?_)
 rw [if_pos (by decide)]
 refine wpAny_bind (wj hx (by exact hA) fun h2 tk keep=>?_)
 have I2:=I1.kept (t':=tk) keep
 have hx2:=keep _ _ hx
 have hil:h2.IsTuple p its.toArray:=⟨_,hx2,rfl,_,rfl⟩
 simp only [Option.isNone_none,if_true]
 refine wpAny_bind (wpAny_rule (wpAny_bind (wpAny_pyIter_tuple hil ?_)))
 have I3:Inv X pins σ (upd H s.heap.objs.size (.dK [])) {s with heap:=h2.push {cls:=.type "tuple_iterator",data:=.fields #[.ref p,.int 0 0]},toks:=tk}:=I2.kept (t':=tk) fun b o e=>Heap.get?_push_of_some _ e
 have hfp:=I2.kd (b:=h2.objs.size) (H':=upd H s.heap.objs.size (.dK [])) (Nat.le_refl _) (I2.hok.fresh (Nat.le_refl _))
 obtain ⟨f0,f1,f2,f3,f4,f5⟩:=hfp
 have hne:h2.objs.size≠s.heap.objs.size:=by
  intro z
  rw [z,ar] at f0
  cases f0
 have hin:H h2.objs.size=none:=by rw [ai hne] at f0;exact f0
 refine wpAny_pure ⟨plainId_quiet aM _,?_⟩
 exact pz (X:=X) (σ:=σ) (H:=H) (kvs:=kvs) (by exact hA) hp hr hl hd ⟨f1,f3,f4,f5⟩ hin hne (fun s' I'=>⟨rfl,⟨.ref _,_,I',rfl,q _ hd⟩⟩) kvs.length 0 _ (by omega) (Nat.zero_le _) ⟨_,Heap.get?_push_size _ rfl,rfl,rfl⟩ I3
end
end L2
namespace Sm
open PySem L2 PySem.Spec PyProof.Rows
section
variable {X:Cx}
def mB:Fn:=fun ds h=>match ds with
 | [.tup xs]=>(fO xs).bind fun ps=>if xs.length≤1000000 then some (.dv (dh [] ps),h) else none
 | ds=>mC ds h
theorem uH (hc:X.calm=true):eC X (.type "dict") mB:=by
 intro pins s σ H xs us Q I r hh
 obtain ⟨ρ,h,ds,z,h',S,l,ee,k⟩:=hh
 unfold mB at ee
 split at ee
 ·rename_i ys
  obtain ⟨ps,e3,e4⟩:=bnd ee
  by_cases c:ys.length≤1000000
  ·rw [if_pos c] at e4;cases e4
   obtain ⟨v,rfl,rd⟩:=rep1 l
   cases rd with
   | tup ht l2=>
    obtain ⟨kvs,p1,p2⟩:=ji l2 e3
    exact iI hc pins s σ H _ us Q I r ⟨_,_,kvs,rfl,ht.sq,p1,by rw [l2.length];exact c,fun q hq=>k _ _ (.dv S (RepK.merge .nil p2) hq)⟩
  ·rw [if_neg c] at e4;cases e4
 ·exact uI hc pins s σ H _ us Q I r ⟨ρ,h,_,z,h',S,l,ee,k⟩
end
end Sm
namespace L2
open PySem PySem.Spec PyProof.Rows
section
variable {X:Cx}
end
end L2
namespace Sm
open PySem L2 PySem.Spec PyProof.Rows
section
variable {X:Cx}
end
end Sm
namespace Hd
open PySem PySem.W PySem.Spec PyProof.Rows L2 Sm
def wA (_:Obj):Bool:=true
def kAt (h:Heap) (a:Addr):Option (Addr×Obj):=match h.get? a with
 | some o=>if wA o then some (a,o) else none
 | none=>none
def bQ (h:Heap):Frag:=(List.range h.objs.size).filterMap (kAt h)
theorem g7 (h:Heap) (a:Addr):∀l:List Addr,(l.filterMap (kAt h)).lookup a=if a∈l then (kAt h a).map (·.2) else none
 | []=>rfl
 | b::r=>by
  have ih:=g7 h a r
  by_cases hb:a=b
  ·subst hb
   rw [if_pos List.mem_cons_self]
   rw [List.filterMap_cons]
   cases e:kAt h a with
   | none=>
    dsimp only
    rw [ih,e]
    split <;> rfl
   | some p=>
    have hp:p.1=a:=by
     unfold kAt at e
     split at e
     ·split at e
      ·cases e;rfl
      ·cases e
     ·cases e
    obtain ⟨p1,p2⟩:=p
    dsimp only at hp
    subst hp
    simp
  ·have hm:(a∈b::r)↔a∈r:=by simp [hb]
   rw [List.filterMap_cons]
   cases e:kAt h b with
   | none=>dsimp only;rw [ih];simp only [hm]
   | some p=>
    have hp:p.1=b:=by
     unfold kAt at e
     split at e
     ·split at e
      ·cases e;rfl
      ·cases e
     ·cases e
    obtain ⟨p1,p2⟩:=p
    dsimp only at hp
    subst hp
    have hab:(a==p1)=false:=by simpa using hb
    rw [List.lookup_cons,hab]
    dsimp only
    rw [ih];simp only [hm]
theorem kU {h:Heap} {a:Addr} {o:Obj} (e:h.get? a=some o) (f:wA o=true):(bQ h).lookup a=some o:=by
 unfold bQ
 rw [g7,if_pos]
 ·unfold kAt;rw [e];dsimp only;rw [if_pos f];rfl
 ·rw [List.mem_range]
  exact Heap.lt_size e
theorem wx (h:Heap):(bQ h).In h:=fun a o e=>by
 unfold bQ at e
 rw [g7] at e
 split at e
 ·unfold kAt at e
  cases g:h.get? a with
  | none=>rw [g] at e;cases e
  | some o'=>
   rw [g] at e
   dsimp only at e
   split at e
   ·cases e;rfl
   ·cases e
 ·cases e
def posOf (s:Stmt):Pos:=match s with
 | .FunctionDef _ _ _ _ _ _ _ _ _ p=>p
 | _=>⟨0,0,0,0⟩
def bD (n:Str) (s:Stmt):DefRec:=⟨n,gD s,dY s,ay s,posOf s⟩
theorem wK {h:Heap} {cd:Value} {q:Str} (r:h.CodeRec cd q):codeIn (bQ h) cd q=true:=by
 obtain ⟨c,o,vs,t,rfl,g,d,e⟩:=r
 have f:wA o=true:=rfl
 unfold codeIn
 dsimp only
 rw [kU g f]
 obtain ⟨oc,od,dt,sl⟩:=o
 dsimp only at d
 subst d
 dsimp only
 obtain ⟨l⟩:=vs
 match l,e with
 | x::.str n _::r,e=>cases e;simp
theorem bY {q:Program} {loose:List Str} {mean:ExcName→Option Value} {mg mb:Str→Option Value} {h:Heap} (T:Top q loose mean mg mb h) {n:Str} {st:Stmt} (e:(recsOf q).find? (fun e=>e.name==n)=some (bD n st)):
  ∃f fd,mg n=some (.ref f)∧Fun (bQ h) n n st f fd:=by
 have hm:bD n st∈recsOf q:=List.mem_of_find?_eq_some e
 obtain ⟨a,o,pm,code,doc,m,g,d,c⟩:=T.fn _ hm
 have f:wA o=true:=rfl
 have lk:=kU g f
 have kp:keepIn (bQ h) (.ref a)=true:=by
  unfold keepIn
  dsimp only
  rw [lk]
  obtain ⟨oc,od,dt,sl⟩:=o
  dsimp only at d
  subst d
  rfl
 obtain ⟨oc,od,dt,sl⟩:=o
 dsimp only at d
 subst d
 exact ⟨a,_,m,⟨oc,od,.none,doc,pm,_,code,_,sl,rfl,lk,wK c⟩,kp⟩
theorem _root_.L2.Fun.one {K:Frag} {x qual:Str} {st:Stmt} {f:Addr} {fd:FuncData} {p:Str} (F:Fun K x qual st f fd)
  (h:∀(kV doc pm:Value) (an:Option Addr) (cdv ct:Value) (u:Value),bindArgs (PySem.W.fnOf x qual (gD st) (dY st) (ay st) .none kV doc pm an cdv ct) ⟨[u],[]⟩=pure [(p,u)]) (s:Shared) (u:Value):BindsTo s fd ⟨[u],[]⟩ [(p,u)]:=by
 obtain ⟨oc,od,kV,doc,pm,an,cdv,ct,osl,rfl,lk,hcd⟩:=F.ex
 exact .of_eq (h kV doc pm an cdv ct u)
theorem yW {l:OpenLaw} {q:Program} {loose:List Str} {XP:(Str→Option Value)→Heap→Prop} {YP:World→Heap→Prop} {d:DefRec} {k:Nat} (hn:l.most=some 63) (hdf:d.params.defaults=[]) (hr:Room k callerA)
  (F:∀(w:World) (s₀:Shared) (mg mb:Str→Option Value) (h:Heap),Ground q loose [] XP w s₀ mg mb h→YP w h→∃(fa:Addr) (fd:FuncData),mg d.name=some (.ref fa)∧(∀(s:Shared) (u:Value),BindsTo s fd ⟨[u],[]⟩ [("_law_script",u)])∧
   ∀base:Heap,(bQ h).In base→base.Ns mainGlobals mg→FnOk l.prog w (bQ h) mg base CX0 k fa fd ["_law_script"] (spT (bQ h))):
  WalkO q loose XP YP l.row.toRowW d [] (fun f vs=>PySem.call f vs):=by
 refine Att.oo hn hdf fun w s₀ s₁ mg mb fa o pm cd doc a vs ns G Y ho hd hcd hmg hobj hints hlen hg=>?_
 obtain ⟨fa',fd,e,hb,hF⟩:=F w s₀ mg mb _ G Y
 rw [e] at hmg
 cases hmg
 exact t9 (wx _) G.T.g G.T.b G.T.builtins G.T.nolimit hg hobj hints (Nat.le_trans hlen (by decide)) hr hF hb (fun H hO hS=>⟨a,ns,rfl,hS,hlen,fun _=>rfl⟩) fun _ _ _ z=>z
def freeOk (q:Program) (loose xs:List Str):Bool:=xs.all fun x=>!startupNames.contains x&&!(looseW q loose).contains x&&!((recsOf q).map (·.name)).contains x&&!((litsOf q).map (·.1)).contains x&&!((clssOf q (looseW q loose)).map (·.name)).contains x
theorem bL {q:Program} {loose xs:List Str} {mean:ExcName→Option Value} {mg mb:Str→Option Value} {h:Heap} (T:Top q (looseW q loose) mean mg mb h) (e:freeOk q loose xs=true) {x:Str} (hx:x∈xs):mg x=none:=by
 have:=List.all_eq_true.mp e x hx
 simp only [Bool.and_eq_true,Bool.not_eq_true',List.contains_eq_mem,decide_eq_false_iff_not] at this
 exact T.free x this.1.1.1.1 this.1.1.1.2 this.1.1.2 this.1.2 this.2
end Hd
namespace Sm
open PySem L2
def kDl (f:Expr→Option D):List Expr→Option (List D)
 | []=>some []
 | e::es=>(f e).bind fun d=>(kDl f es).bind fun ds=>some (d::ds)
def kD:Nat→Expr→Option D
 | 0,_=>none
 | n+1,e=>match e with
  | .Constant .none _ _=>some .non
  | .Constant (.bool b) _ _=>some (.bl b)
  | .Constant (.int i) _ _=>some (.int i)
  | .Constant (.str x) _ _=>if PyData.strOk x then some (.str x) else none
  | .UnaryOp .USub (.Constant (.int i) _ _) _=>some (.int (-i))
  | .Tuple es _ _=>(kDl (kD n) es).bind fun ds=>if ds.length≤1000 then some (.tup ds) else none
  | .List es _=>(kDl (kD n) es).bind fun ds=>if ds.length≤1000 then some (.lv ds) else none
  | .Dict [] [] _=>some (.dv [])
  | _=>none
def aK (ds:List D):AM:=fun _ h=>some (ds,h)
theorem AV (ds:List D):iL (aK ds) ds.length:=fun δ h xs h' e=>by cases e;rfl
section
variable {X:Cx}
theorem sM {n:Nat} {e:Expr} {d:D} (h:kD n e=some d) (es:List Expr):starEach (e::es) X.env=(false,eval e X.env)::starEach es X.env:=by
 cases n with
 | zero=>cases h
 | succ n=>cases e <;> first | rfl | (exfalso;exact (nomatch h))
theorem lP {f:Expr→Option D} (hf:∀{e:Expr} {d:D},f e=some d→SE X e (eK d)) (hs:∀{e:Expr} {d:D},f e=some d→∀es:List Expr,starEach (e::es) X.env=(false,eval e X.env)::starEach es X.env):
  ∀{es:List Expr} {ds:List D},kDl f es=some ds→SA X es (aK ds)
 | [],ds,h=>by cases h;exact ah
 | e::es,ds,h=>by
  unfold kDl at h
  obtain ⟨d,e1,h⟩:=bnd h
  obtain ⟨r,e2,h⟩:=bnd h
  cases h
  exact (aa (hf e1) (lP hf hs e2) (hs e1 es):SA X _ (af (eK d) (aK r)))
theorem fk:∀(n:Nat) {e:Expr} {d:D},kD n e=some d→SE X e (eK d)
 | 0,_,_,h=>by cases h
 | n+1,e,d,h=>by
  unfold kD at h
  split at h
  ·cases h;exact c9
  ·cases h;exact kF
  ·cases h;exact ak
  ·split at h
   ·rename_i hs;cases h;exact eQ hs
   ·cases h
  ·cases h;exact (ng iZ ak:SE X _ (eUn lD (eK _)))
  ·obtain ⟨ds,e1,e2⟩:=bnd h
   split at e2
   ·rename_i hl;cases e2
    exact (gQ (lP (fk n) sM e1) (AV ds) (Nat.le_trans hl (by decide)):SE X _ (eFn my (aK ds)))
   ·cases e2
  ·obtain ⟨ds,e1,e2⟩:=bnd h
   split at e2
   ·rename_i hl;cases e2
    exact (SFL.lv (cg (lP (fk n) sM e1) (AV ds) (Nat.le_trans hl (by decide))):SE X _ (eLv (aK ds)))
   ·cases e2
  ·cases h;exact w5
  ·cases h
end
end Sm
namespace L2
open PySem PySem.Spec PyProof.Rows
section
variable {X:Cx}
end
end L2
namespace Sm
open PySem L2 PySem.Spec PyProof.Rows
section
variable {X:Cx}
end
end Sm
namespace Sm
open PySem L2 PySem.Spec PyProof.Rows
section
variable {X:Cx}
end
end Sm
namespace L2
open PySem PySem.Spec PyProof.Rows
section
variable {X:Cx}
end
end L2
namespace Sm
open PySem L2 PySem.Spec PyProof.Rows
section
variable {X:Cx} {a b:Expr} {pos:Pos} {ma mb:EM}
end
end Sm
namespace Sm
open PySem L2
theorem jE (a b:Str) (h:MH):gz (.str a) (.str b) h=some (.bl (!(a==b)),h):=rfl
theorem nz:∀cs:List Int,pyL (cs.map D.int)=some (cs.map PyData.int)
 | []=>rfl
 | c::r=>by simp only [List.map_cons,pyL,pyD,nz r,Option.bind_some,Option.map_some]
theorem jH:∀cs:List Int,PyData.depthAll (cs.map PyData.int)=0
 | []=>rfl
 | c::r=>by simp only [List.map_cons,PyData.depthAll,jH r,PyData.depth];rfl
theorem rQ {h:MH} {c:Nat} {cs:List Int} (hc:h[c]?=some (.lst (cs.map D.int))):gz (.ob c) (.lv []) h=some (.bl (!cs.isEmpty),h):=by
 simp only [gz,eqA,bp,hc,eqD,rdD,nz,pyD,pyL,Option.map_some,Option.bind_some,PyData.depth,jH]
 cases cs <;> rfl
theorem dX {h:MH} {n:Nat} {xs:List D} {i:Int} {d:D} (hn:h[n]?=some (.lst xs)) (e:atI xs i=some d):fIx (.ob n) (.int i) h=some (d,h):=by
 simp only [fIx,bp,hn,bR,Option.bind_some,e,Option.map_some]
theorem qo {h:MH} {n:Nat} {xs:List D} (hn:h[n]?=some (.lst xs)):fb [.ob n] h=some (.int xs.length,h):=by
 simp only [fb,bp,hn,bR,Option.map_some]
theorem mz {h:MH} {n:Nat} {xs:List D} {i:Int} {p:Nat} {d:D} (hn:h[n]?=some (.lst xs)) (e:ixN xs.length i=some p):ke (.ob n) (.int i) d h=some (h.set n (.lst (xs.set p d))):=by
 simp only [ke,hn,e,Option.map_some]
theorem uV (cs:List Int) (i:Int) (h0:0≤i) (h1:i < cs.length):∃z,atI (cs.map D.int) i=some (.int z):=by
 have hlt:i.toNat < cs.length:=by omega
 refine ⟨cs[i.toNat]'hlt,?_⟩
 have e:((i.toNat:Nat):Int)=i:=Int.toNat_of_nonneg h0
 have q:atI (cs.map D.int) ((i.toNat:Nat):Int)=some (D.int (cs[i.toNat]'hlt)):=iR (by rw [List.getElem?_map,List.getElem?_eq_getElem hlt];rfl)
 rw [e] at q
 exact q
theorem uU {α:Type} {xs:List α} {i:Int} (h0:0≤i) (h1:i < xs.length):∃v,atI xs i=some v∧v∈xs:=by
 have hlt:i.toNat < xs.length:=by omega
 have e:((i.toNat:Nat):Int)=i:=Int.toNat_of_nonneg h0
 have q:atI xs ((i.toNat:Nat):Int)=some (xs[i.toNat]'hlt):=iR (List.getElem?_eq_getElem hlt)
 rw [e] at q
 exact ⟨_,q,List.getElem_mem hlt⟩
end Sm
namespace Sm
open PySem
def Rn {α:Type} (o:Option α) (Q:α→Prop):Prop:=∃a,o=some a∧Q a
theorem rv {α:Type} {o:Option α} {a:α} {Q:α→Prop} (e:o=some a) (q:Q a):Rn o Q:=⟨a,e,q⟩
theorem Rn.imp {α:Type} {o:Option α} {Q Q':α→Prop} (r:Rn o Q) (f:∀a,Q a→Q' a):Rn o Q':=let ⟨a,e,q⟩:=r;⟨a,e,f a q⟩
theorem az {α β:Type} {o:Option α} {f:α→Option β} {Q:β→Prop} (r:Rn o fun a=>Rn (f a) Q):Rn (o.bind f) Q:=by
 obtain ⟨a,e,b,e2,q⟩:=r
 exact ⟨b,by rw [e];exact e2,q⟩
theorem qV {α β:Type} {o:Option α} {f:α→β} {Q:β→Prop} (r:Rn o fun a=>Q (f a)):Rn (o.map f) Q:=by
 obtain ⟨a,e,q⟩:=r
 exact ⟨f a,by rw [e];rfl,q⟩
section
variable {δ:DS} {h:MH}
theorem zS {i:Nat} {d:D} {Q:D×MH→Prop} (e:δ[i]?=some (some d)) (q:Q (d,h)):Rn (ae i δ h) Q:=⟨(d,h),by unfold ae;rw [e];rfl,q⟩
theorem r_k {d:D} {Q:D×MH→Prop} (q:Q (d,h)):Rn (eK d δ h) Q:=⟨_,rfl,q⟩
theorem vt {f:D→D→MH→Option (D×MH)} {a b:EM} {Q:D×MH→Prop} (r:Rn (a δ h) fun p=>Rn (b δ p.2) fun q=>Rn (f p.1 q.1 q.2) Q):Rn (eOp f a b δ h) Q:=az (r.imp fun _ r=>az r)
theorem Bj {f:D→MH→Option (D×MH)} {a:EM} {Q:D×MH→Prop} (r:Rn (a δ h) fun p=>Rn (f p.1 p.2) Q):Rn (eUn f a δ h) Q:=az r
theorem z5 {Q:List D×MH→Prop} (q:Q ([],h)):Rn (av δ h) Q:=⟨_,rfl,q⟩
theorem ya {a:EM} {m:AM} {Q:List D×MH→Prop} (r:Rn (a δ h) fun p=>Rn (m δ p.2) fun q=>Q (p.1::q.1,q.2)):Rn (af a m δ h) Q:=az (r.imp fun _ r=>az (r.imp fun _ q=>⟨_,rfl,q⟩))
theorem Bt {f:Fn} {m:AM} {Q:D×MH→Prop} (r:Rn (m δ h) fun p=>Rn (f p.1 p.2) Q):Rn (eFn f m δ h) Q:=az r
theorem Bp {t:TM} {a b:EM} {Q:D×MH→Prop} (r:Rn (t δ h) fun p=>(p.1=true→Rn (a δ p.2) Q)∧(p.1=false→Rn (b δ p.2) Q)):Rn (eIf t a b δ h) Q:=az (r.imp fun p ⟨q1,q2⟩=>by
 obtain ⟨c,h⟩:=p
 cases c with
 | true=>exact q1 rfl
 | false=>exact q2 rfl)
theorem yc {a:EM} {Q:Bool×MH→Prop} (r:Rn (a δ h) fun p=>∃c,p.1=.bl c∧Q (c,p.2)):Rn (bq a δ h) Q:=az (r.imp fun p ⟨c,e,q⟩=>⟨(c,p.2),by rw [e],q⟩)
theorem xY {a:EM} {Q:Bool×MH→Prop} (r:Rn (a δ h) fun p=>∃c,oB p.1 p.2=some c∧Q (c,p.2)):Rn (sE a δ h) Q:=az (r.imp fun p ⟨c,e,q⟩=>⟨(c,p.2),by rw [e];rfl,q⟩)
theorem xZ {t:TM} {Q:Bool×MH→Prop} (r:Rn (t δ h) fun p=>Q (!p.1,p.2)):Rn (Sm.qL t δ h) Q:=qV r
theorem x3 {a b:TM} {Q:Bool×MH→Prop} (r:Rn (a δ h) fun p=>(p.1=true→Rn (b δ p.2) Q)∧(p.1=false→Q (false,p.2))):Rn (Sm.mW a b δ h) Q:=az (r.imp fun p ⟨q1,q2⟩=>by
 obtain ⟨c,h⟩:=p
 cases c with
 | true=>exact q1 rfl
 | false=>exact ⟨_,rfl,q2 rfl⟩)
theorem zT {a b:TM} {Q:Bool×MH→Prop} (r:Rn (a δ h) fun p=>(p.1=true→Q (true,p.2))∧(p.1=false→Rn (b δ p.2) Q)):Rn (Sm.tOr a b δ h) Q:=az (r.imp fun p ⟨q1,q2⟩=>by
 obtain ⟨c,h⟩:=p
 cases c with
 | true=>exact ⟨_,rfl,q1 rfl⟩
 | false=>exact q2 rfl)
theorem Ab {a b:EM} {Q:D×MH→Prop} (r:Rn (a δ h) fun p=>∃c,p.1=.bl c∧(c=true→Rn (b δ p.2) Q)∧(c=false→Q (.bl false,p.2))):Rn (y7 a b δ h) Q:=az (r.imp fun p ⟨c,e,q1,q2⟩=>by
 rw [e]
 cases c with
 | true=>exact q1 rfl
 | false=>exact ⟨_,rfl,q2 rfl⟩)
theorem Bl {a b:EM} {Q:D×MH→Prop} (r:Rn (a δ h) fun p=>∃c,p.1=.bl c∧(c=true→Q (.bl true,p.2))∧(c=false→Rn (b δ p.2) Q)):Rn (eOr a b δ h) Q:=az (r.imp fun p ⟨c,e,q1,q2⟩=>by
 rw [e]
 cases c with
 | true=>exact ⟨_,rfl,q1 rfl⟩
 | false=>exact q2 rfl)
theorem z4 {a:EM} {Q:D×MH→Prop} (r:Rn (a δ h) fun p=>∃c,p.1=.bl c∧Q (.bl (!c),p.2)):Rn (BS a δ h) Q:=az (r.imp fun p ⟨c,e,q⟩=>⟨_,by rw [e],q⟩)
theorem Bo {m:AM} {Q:D×MH→Prop} (r:Rn (m δ h) fun p=>Q (.lv p.1,p.2)):Rn (eLv m δ h) Q:=qV r
theorem Bm {m:AM} {Q:D×MH→Prop} (r:Rn (m δ h) fun p=>Q (.ob p.2.length,p.2++[.lst p.1])):Rn (eOb m δ h) Q:=qV r
theorem Bu {Q:D×MH→Prop} (q:Q (.dv [],h)):Rn (eDv δ h) Q:=⟨_,rfl,q⟩
theorem Bv {Q:D×MH→Prop} (q:Q (.ob h.length,h++[.dct []])):Rn (eDo δ h) Q:=⟨_,rfl,q⟩
theorem x6 {m:AM} {Q:List D×MH→Prop} (r:Rn (m δ h) fun p=>∃d xs ws,p.1=[d]∧bR d p.2=some (xs,ws)∧Q (xs,p.2)):Rn (uY m δ h) Q:=az (r.imp fun p ⟨d,xs,ws,e,e2,q⟩=>⟨(xs,p.2),by rw [e];dsimp only;rw [e2];rfl,q⟩)
theorem zY {Q:Option Int×MH→Prop} (q:Q (none,h)):Rn (pNo δ h) Q:=⟨_,rfl,q⟩
theorem zZ {a:EM} {Q:Option Int×MH→Prop} (r:Rn (a δ h) fun p=>∃i,p.1=.int i∧Q (some i,p.2)):Rn (pAt a δ h) Q:=az (r.imp fun p ⟨c,e,q⟩=>⟨_,by rw [e],q⟩)
theorem Bk {a:EM} {l u:PM} {Q:D×MH→Prop} (r:Rn (a δ h) fun p=>Rn (l δ p.2) fun q=>Rn (u δ q.2) fun r=>Rn (fSl p.1 q.1 r.1 r.2) Q):Rn (eSl a l u δ h) Q:=az (r.imp fun _ r=>az (r.imp fun _ r=>az r))
abbrev SQ:=Fl×DS×MH→Prop
theorem x4 {Q:SQ} (q:Q (.nx,δ,h)):Rn (gj δ h) Q:=⟨_,rfl,q⟩
theorem x5 {Q:SQ} (q:Q (.bk,δ,h)):Rn (xQ δ h) Q:=⟨_,rfl,q⟩
theorem vq {Q:SQ} (q:Q (.ct,δ,h)):Rn (zP δ h) Q:=⟨_,rfl,q⟩
def mV (b:SM) (Q:SQ):SQ:=fun r=>match r.1 with
 | .nx=>Rn (b r.2.1 r.2.2) Q
 | _=>Q r
theorem zW {a b:SM} {Q:SQ} (r:Rn (a δ h) (mV b Q)):Rn (aF a b δ h) Q:=az (r.imp fun p q=>by
 obtain ⟨f,δ',h'⟩:=p
 cases f with
 | nx=>exact q
 | bk=>exact ⟨_,rfl,q⟩
 | ct=>exact ⟨_,rfl,q⟩
 | rt d=>exact ⟨_,rfl,q⟩)
theorem zV {i:Nat} {e:EM} {Q:SQ} (r:Rn (e δ h) fun p=>Q (.nx,δ.set i (some p.1),p.2)):Rn (aW i e δ h) Q:=az (r.imp fun _ q=>⟨_,rfl,q⟩)
theorem Aa {e:EM} {g:GM} {Q:SQ} (r:Rn (e δ h) fun p=>Rn (g p.1 δ p.2) fun q=>Q (.nx,q.1,q.2)):Rn (eW e g δ h) Q:=az (r.imp fun _ r=>az (r.imp fun _ q=>⟨_,rfl,q⟩))
theorem x9 {e:EM} {Q:SQ} (r:Rn (e δ h) fun p=>Q (.nx,δ,p.2)):Rn (gk e δ h) Q:=az (r.imp fun _ q=>⟨_,rfl,q⟩)
theorem zX {e:EM} {Q:SQ} (r:Rn (e δ h) fun p=>Q (.rt p.1,δ,p.2)):Rn (cB e δ h) Q:=az (r.imp fun _ q=>⟨_,rfl,q⟩)
theorem zU {t:TM} {a b:SM} {Q:SQ} (r:Rn (t δ h) fun p=>(p.1=true→Rn (a δ p.2) Q)∧(p.1=false→Rn (b δ p.2) Q)):Rn (sIf t a b δ h) Q:=az (r.imp fun p ⟨q1,q2⟩=>by
 obtain ⟨c,h⟩:=p
 cases c with
 | true=>exact q1 rfl
 | false=>exact q2 rfl)
theorem z0 {i j:Nat} {m:AM} {Q:SQ} (r:Rn (m δ h) fun p=>∃a b,p.1=[a,b]∧Q (.nx,(δ.set i (some a)).set j (some b),p.2)):Rn (Bi i j m δ h) Q:=az (r.imp fun p ⟨a,b,e,q⟩=>⟨_,by rw [e],q⟩)
theorem Br {i:Nat} {d:D} {Q:DS×MH→Prop} (q:Q (δ.set i (some d),h)):Rn (gN i d δ h) Q:=⟨_,rfl,q⟩
theorem x8 {o i:EM} {v:D} {Q:DS×MH→Prop} (r:Rn (o δ h) fun p=>Rn (i δ p.2) fun q=>Rn (ke p.1 q.1 v q.2) fun h'=>Q (δ,h')):Rn (Sm.fz o i v δ h) Q:=az (r.imp fun _ r=>az (r.imp fun _ r=>qV r))
theorem Bq {n:Nat} {u:GMs} {xs:List D} {Q:DS×MH→Prop} (hn:xs.length=n) (r:Rn (u xs δ h) Q):Rn (gT n u (.tup xs) δ h) Q:=by
 unfold gT;dsimp only;rw [if_pos hn];exact r
theorem tu {g:GM} {u:GMs} {d:D} {xs:List D} {Q:DS×MH→Prop} (r:Rn (g d δ h) fun p=>Rn (u xs p.1 p.2) Q):Rn (aD g u (d::xs) δ h) Q:=az r
theorem vB {Q:DS×MH→Prop} (q:Q (δ,h)):Rn (cY [] δ h) Q:=⟨_,rfl,q⟩
end
def vk (Q:D×MH→Prop):SQ:=fun r=>match r.1 with
 | .rt d=>Q (d,r.2.2)
 | .nx=>Q (.non,r.2.2)
 | _=>False
theorem BG {Q:D×MH→Prop} {d:D} {δ:DS} {h:MH} (q:Q (d,h)):vk Q (.rt d,δ,h):=q
theorem BH {Q:D×MH→Prop} {δ:DS} {h:MH} (q:Q (.non,h)):vk Q (.nx,δ,h):=q
theorem A6 {b:SM} {Q:SQ} {δ:DS} {h:MH} (r:Rn (b δ h) Q):mV b Q (.nx,δ,h):=r
theorem A4 {b:SM} {Q:SQ} {d:D} {δ:DS} {h:MH} (q:Q (.rt d,δ,h)):mV b Q (.rt d,δ,h):=q
theorem A9 {b:SM} {Q:SQ} {δ:DS} {h:MH} (q:Q (.bk,δ,h)):mV b Q (.bk,δ,h):=q
theorem A8 {b:SM} {Q:SQ} {δ:DS} {h:MH} (q:Q (.ct,δ,h)):mV b Q (.ct,δ,h):=q
def kS (I:DS→MH→Prop) (Q:SQ):SQ:=fun z=>match z.1 with
 | .nx=>I z.2.1 z.2.2
 | .ct=>I z.2.1 z.2.2
 | .bk=>Q (.nx,z.2.1,z.2.2)
 | .rt d=>Q (.rt d,z.2.1,z.2.2)
theorem AG {I:DS→MH→Prop} {Q:SQ} {δ:DS} {h:MH} (q:I δ h):kS I Q (.nx,δ,h):=q
theorem BL {I:DS→MH→Prop} {Q:SQ} {δ:DS} {h:MH} (q:I δ h):kS I Q (.ct,δ,h):=q
theorem BM {I:DS→MH→Prop} {Q:SQ} {δ:DS} {h:MH} (q:Q (.nx,δ,h)):kS I Q (.bk,δ,h):=q
theorem BK {I:DS→MH→Prop} {Q:SQ} {d:D} {δ:DS} {h:MH} (q:Q (.rt d,δ,h)):kS I Q (.rt d,δ,h):=q
theorem cO {len:Nat} {b:SM} {ds:List D} {h:MH} {Q:D×MH→Prop} (r:Rn (b (entry len ds) h) (vk Q)):Rn (mkF len b ds h) Q:=az (r.imp fun p q=>by
 obtain ⟨f,δ',h'⟩:=p
 cases f with
 | nx=>exact ⟨_,rfl,q⟩
 | rt d=>exact ⟨_,rfl,q⟩
 | bk=>exact q.elim
 | ct=>exact q.elim)
theorem z7 {i:IM} {g:GM} {b:SM} {δ:DS} {h:MH} {Q:SQ} (r:Rn (i δ h) fun p=>Rn (eF p.2.1 g b p.1 δ p.2.2) Q):Rn (eV i g b δ h) Q:=az r
theorem bW {ws:W} {g:GM} {b:SM} {Q:SQ}:∀{xs:List D} {δ:DS} {h:MH} (I:Nat→DS→MH→Prop),I 0 δ h→(∀i δ h,i≤xs.length→I i δ h→chk ws h=true)→
  (∀i x δ h,xs[i]?=some x→I i δ h→Rn (g x δ h) fun q=>Rn (b q.1 q.2) (kS (I (i+1)) Q))→(∀δ h,I xs.length δ h→Q (.nx,δ,h))→Rn (eF ws g b xs δ h) Q
 | [],δ,h,I,h0,hc,_,hq=>by
  unfold eF
  rw [if_pos (hc 0 δ h (Nat.le_refl _) h0)]
  exact ⟨_,rfl,hq δ h h0⟩
 | x::xs,δ,h,I,h0,hc,ht,hq=>by
  unfold eF
  rw [if_pos (hc 0 δ h (Nat.zero_le _) h0)]
  obtain ⟨q,e1,z,e2,hz⟩:=ht 0 x δ h rfl h0
  rw [e1]
  show Rn ((b q.1 q.2).bind _) Q
  rw [e2]
  obtain ⟨f,δ',h'⟩:=z
  have next:I 1 δ' h'→Rn (eF ws g b xs δ' h') Q:=fun hi=>bW (fun i=>I (i+1)) hi (fun i δ h hl=>hc (i+1) δ h (Nat.succ_le_succ hl)) (fun i x δ h hx=>ht (i+1) x δ h (by simpa using hx)) hq
  cases f with
  | nx=>exact next hz
  | ct=>exact next hz
  | bk=>exact ⟨_,rfl,hz⟩
  | rt d=>exact ⟨_,rfl,hz⟩
theorem cG {e:EM} {δ:DS} {h:MH} {Q:List D×W×MH→Prop} (r:Rn (e δ h) fun p=>∃xs ws,bR p.1 p.2=some (xs,ws)∧Q (xs,ws,p.2)):Rn (eD e δ h) Q:=az (r.imp fun p ⟨xs,ws,e,q⟩=>⟨(xs,ws,p.2),by rw [e];rfl,q⟩)
theorem fN {m:AM} {δ:DS} {h:MH} {Q:List D×W×MH→Prop} (r:Rn (m δ h) fun p=>∃j:Int,p.1=[.int j]∧-(2^62)≤j∧j < 2^62∧Q ((List.range j.toNat).map fun (k:Nat)=>D.int (k:Int),[],p.2)):Rn (iH m δ h) Q:=az (r.imp fun p ⟨j,e,h1,h2,q⟩=>by
 rw [e];dsimp only;rw [if_pos ⟨h1,h2⟩];exact ⟨_,rfl,q⟩)
theorem vz {m:AM} {δ:DS} {h:MH} {Q:List D×W×MH→Prop} (r:Rn (m δ h) fun p=>∃i j:Int,p.1=[.int i,.int j]∧(-(2^62)≤i∧i < 2^62∧-(2^62)≤j∧j < 2^62)∧Q ((List.range (j-i).toNat).map fun (k:Nat)=>D.int (i+(k:Int)),[],p.2)):Rn (iH m δ h) Q:=az (r.imp fun p ⟨i,j,e,h1,q⟩=>by
 rw [e];dsimp only;rw [if_pos h1];exact ⟨_,rfl,q⟩)
theorem vA {m:AM} {δ:DS} {h:MH} {Q:List D×W×MH→Prop} (r:Rn (m δ h) fun p=>∃d xs ws,p.1=[d]∧bR d p.2=some (xs,ws)∧Q (dE 0 xs,ws,p.2)):Rn (uc m δ h) Q:=
 az (r.imp fun p ⟨d,xs,ws,e1,e2,q⟩=>⟨_,by rw [e1];dsimp only;rw [e2];rfl,q⟩)
theorem yb {caps:List (Option Nat)} {i:IM} {g:GM} {c:TM} {e:EM} {δ:DS} {h:MH} {Q:List D×MH→Prop} (r:Rn (i δ h) fun p=>Rn (cI p.2.1 g c e p.1 (ff caps δ) p.2.2) fun q=>q.1.length≤sizeLine∧Q q):Rn (fE caps i g c e δ h) Q:=
 az (r.imp fun p r=>az (r.imp fun q ⟨hz,hq⟩=>⟨q,by rw [if_pos hz],hq⟩))
theorem fo {ws:W} {g:GM} {c:TM} {e:EM} {h:MH} (hc:chk ws h=true) (f:D→Option D) (J:DS→Prop):∀{xs:List D} {δ:DS},J δ→
  (∀x∈xs,∀δ,J δ→Rn (g x δ h) fun q=>q.2=h∧Rn (c q.1 h) fun t=>t.2=h∧J q.1∧(t.1=true→∃y,f x=some y∧Rn (e q.1 h) fun p=>p=(y,h))∧(t.1=false→f x=none))→
  cI ws g c e xs δ h=some (xs.filterMap f,h)
 | [],δ,_,_=>by unfold cI;rw [if_pos hc];rfl
 | x::xs,δ,hJ,ht=>by
  unfold cI
  rw [if_pos hc]
  obtain ⟨⟨δ1,h1⟩,e1,rfl,⟨t,h2⟩,e2,rfl,J1,q1,q2⟩:=ht x List.mem_cons_self δ hJ
  rw [e1]
  dsimp only [Option.bind_some] at e2 q1 q2 ⊢
  rw [e2]
  dsimp only [Option.bind_some]
  have ih:=fo hc f J J1 (xs:=xs) fun y hy=>ht y (List.mem_cons_of_mem _ hy)
  cases t with
  | true=>
   obtain ⟨y,ef,p,ep,rfl⟩:=q1 rfl
   rw [if_pos rfl,ep]
   dsimp only [Option.bind_some]
   rw [ih,List.filterMap_cons,ef];rfl
  | false=>
   rw [if_neg (by simp),ih,List.filterMap_cons,q2 rfl]
end Sm
namespace Sm
open PySem
theorem sj {kvs:List (L2.Key×D)} {k:L2.Key} {v:D} (h:bc kvs k=some v):(k,v)∈kvs:=by
 unfold bc at h
 obtain ⟨p,e1,e2⟩:=mpd h
 have h1:=List.find?_some e1
 have h2:=List.mem_of_find?_eq_some e1
 have h3:p.1=k:=by simpa using h1
 subst h3;subst e2
 exact h2
theorem jg {kvs:List (L2.Key×D)} {k:L2.Key} {v:D} (h:k∉kvs.map (·.1)):putD kvs k v=kvs++[(k,v)]:=by
 unfold putD
 rw [if_neg]
 intro z
 obtain ⟨p,hp,e⟩:=List.any_eq_true.mp z
 exact h (List.mem_map.mpr ⟨p,hp,of_decide_eq_true e⟩)
theorem jq:∀{ps acc:List (L2.Key×D)},((acc++ps).map (·.1)).Nodup→dh acc ps=acc++ps
 | [],acc,_=>(List.append_nil acc).symm
 | p::r,acc,nd=>by
  obtain ⟨k,v⟩:=p
  show dh (putD acc k v) r=_
  have nk:k∉acc.map (·.1):=by
   rw [List.map_append,List.nodup_append] at nd
   intro m
   exact nd.2.2 k m k (by simp) rfl
  rw [jg nk,jq (by rw [List.append_assoc];exact nd),List.append_assoc]
  rfl
theorem cz {d:D} {kvs:List (L2.Key×D)} {h:MH} {x:Str} {v:D} (hd:bp d h=some kvs) (hv:bc kvs (.inr x)=some v):fIx d (.str x) h=some (v,h):=by
 simp only [fIx,hd,fy,Option.bind_some,hv,Option.map_some]
theorem jD {d:D} {kvs:List (L2.Key×D)} {h:MH} {x:Str} (hd:bp d h=some kvs):di (.str x) d h=some (.bl (!(bc kvs (.inr x)).isSome),h):=by
 simp only [di,inD,hd,fy,Option.map_some]
theorem jC {h:MH} {n:Nat} {kvs:List (L2.Key×D)} {x:Str} {d:D} (hn:h[n]?=some (.dct kvs)) (hz:kvs.length < sizeLine):ke (.ob n) (.str x) d h=some (h.set n (.dct (putD kvs (.inr x) d))):=by
 simp only [ke,hn,fy,Option.bind_some,if_pos hz]
theorem bg {h:MH} {n:Nat} {kvs:List (L2.Key×D)} (hn:h[n]?=some (.dct kvs)):bp (.ob n) h=some kvs:=by simp only [bp,hn]
end Sm
namespace Sm
theorem tj {δ:DS} {h:MH} {i:Nat} {d:D} {Q:D×MH→Prop} (q:Q (d,h)) (e:δ[i]?=some (some d):=by with_unfolding_all rfl):Rn (ae i δ h) Q:=zS e q
theorem xc {δ:DS} {h:MH} {n:Nat} {u:GMs} {xs:List D} {Q:DS×MH→Prop} (r:Rn (u xs δ h) Q) (hn:xs.length=n:=by with_unfolding_all rfl):Rn (gT n u (.tup xs) δ h) Q:=Bq hn r
end Sm
namespace Sm
open PySem L2
section
variable {δ:DS} {h:MH}
theorem iO {α:Type} {ws:W} {g:GM} {c:TM} {m:MK α} {Q:DS×MH×α→Prop}:∀(xs:List D) (P:List D→DS→MH→α→Prop) (δ:DS) (h:MH) (a:α),P xs δ h a→
  (∀x r δ h a,P (x::r) δ h a→chk ws h=true∧Rn (g x δ h) fun q=>Rn (c q.1 q.2) fun t=>if t.1=true then Rn (m q.1 t.2 a) fun z=>P r z.1 z.2.1 z.2.2 else P r q.1 t.2 a)→
  (∀δ h a,P [] δ h a→chk ws h=true∧Q (δ,h,a))→Rn (bG ws g c m xs δ h a) Q
 | [],P,δ,h,a,p,_,fin=>by
  obtain ⟨hc,q⟩:=fin δ h a p
  exact ⟨_,by unfold bG;rw [if_pos hc],q⟩
 | x::r,P,δ,h,a,p,step,fin=>by
  obtain ⟨hc,q,e1,t,e2,q3⟩:=step x r δ h a p
  unfold bG
  rw [if_pos hc,e1]
  show Rn ((c q.1 q.2).bind _) Q
  rw [e2]
  show Rn (if t.1=true then _ else _) Q
  by_cases z:t.1=true
  ·rw [if_pos z] at q3 ⊢
   obtain ⟨y,e3,q4⟩:=q3
   rw [e3]
   exact iO r P _ _ _ q4 step fin
  ·rw [if_neg z] at q3 ⊢
   exact iO r P _ _ _ q3 step fin
theorem z8 {α:Type} {caps:List (Option Nat)} {i:IM} {g:GM} {c:TM} {m:MK α} {a0:α} {out:α→D} {Q:D×MH→Prop} (hh:Rn (i δ h) fun p=>Rn (bG p.2.1 g c m p.1 (ff caps δ) p.2.2 a0) fun q=>Q (out q.2.2,q.2.1)):Rn (eAc caps i g c m a0 out δ h) Q:=
 az (hh.imp fun p r=>qV r)
theorem vC {caps:List (Option Nat)} {i:IM} {g:GM} {c:TM} {m:MK (List Str)} {Q:D×MH→Prop} (hh:Rn (i δ h) fun p=>Rn (bG p.2.1 g c m p.1 (ff caps δ) p.2.2 []) fun q=>q.2.2.length < 64∧Q (.lv ((bX q.2.2).map D.str),q.2.1)):Rn (qq caps i g c m δ h) Q:=
 az (hh.imp fun p r=>az (r.imp fun q ⟨l,k⟩=>by rw [if_pos l];exact ⟨_,rfl,k⟩))
theorem vw {α:Type} {i:IM} {g:GM} {c:TM} {m:MK α} {a:α} {Q:DS×MH×α→Prop} (hh:Rn (i δ h) fun p=>Rn (bG p.2.1 g c m p.1 δ p.2.2 a) Q):Rn (nQ i g c m δ h a) Q:=az hh
theorem z6 {e:EM} {a:List Str} {Q:DS×MH×List Str→Prop} (hh:Rn (e δ h) fun p=>∃x,p.1=.str x∧a.length+1 < scanBound∧Q (δ,p.2,cK a x)):Rn (mS e δ h a) Q:=
 az (hh.imp fun p ⟨x,e1,l,q⟩=>by rw [e1];show Rn (if a.length+1 < scanBound then _ else _) Q;rw [if_pos l];exact ⟨_,rfl,q⟩)
theorem Bn {k v:EM} {a:List (Key×D)} {Q:DS×MH×List (Key×D)→Prop} (hh:Rn (k δ h) fun p=>Rn (v δ p.2) fun q=>∃kk,fy p.1=some kk∧a.length < sizeLine∧Q (δ,q.2,putD a kk q.1)):Rn (mD k v δ h a) Q:=
 az (hh.imp fun p r=>az (r.imp fun q ⟨kk,e1,l,k⟩=>by rw [e1];show Rn (if a.length < sizeLine then _ else _) Q;rw [if_pos l];exact ⟨_,rfl,k⟩))
theorem tq {Q:List (Key×D)×MH→Prop} (q:Q ([],h)):Rn (wb δ h) Q:=⟨_,rfl,q⟩
theorem p4 {k v:EM} {r:PrM} {Q:List (Key×D)×MH→Prop} (hh:Rn (k δ h) fun p=>Rn (v δ p.2) fun q=>∃kk,fy p.1=some kk∧Rn (r δ q.2) fun z=>Q ((kk,q.1)::z.1,z.2)):Rn (qe k v r δ h) Q:=
 az (hh.imp fun p x=>az (x.imp fun q ⟨kk,e1,y⟩=>by rw [e1];exact qV y))
theorem p5 {m:PrM} {Q:D×MH→Prop} (hh:Rn (m δ h) fun p=>p.1.length≤15∧Q (.dv (dh [] p.1),p.2)):Rn (qr m δ h) Q:=az (hh.imp fun p ⟨l,q⟩=>by rw [if_pos l];exact ⟨_,rfl,q⟩)
theorem vD {m s:EM} {Q:D×MH→Prop} (hh:Rn (m δ h) fun p=>Rn (s δ p.2) fun q=>q.1=.int (-1)∧∃xs ws,bR p.1 q.2=some (xs,ws)∧Q (if kc p.1=true then .lv xs.reverse else .tup xs.reverse,q.2)):Rn (uB m s δ h) Q:=
 az (hh.imp fun p x=>az (x.imp fun q ⟨e1,xs,ws,e2,k⟩=>by rw [e1];show Rn (if (-1:Int)=-1 then _ else _) Q;rw [if_pos rfl,e2];exact ⟨_,rfl,k⟩))
theorem oV {a:EM} {l u:PM} {Q:D×MH→Prop} (hh:Rn (a δ h) fun p=>Rn (l δ p.2) fun q=>Rn (u δ q.2) fun r=>Rn (uo p.1 q.1 r.1 r.2) Q):Rn (uA a l u δ h) Q:=az (hh.imp fun _ x=>az (x.imp fun _ y=>az y))
end
end Sm
namespace Sm
open PySem L2
section
variable {h:MH} {Q:D×MH→Prop} {a b:Int} {x y:Str} {d e f g:D} {r:List D}
theorem zp {ds:List D} (q:Q (.tup ds,h)):Rn (my ds h) Q:=⟨_,rfl,q⟩
theorem zq (q:Q (.int (-a),h)):Rn (lD (.int a) h) Q:=⟨_,rfl,q⟩
theorem w_add (q:Q (.int (a+b),h)):Rn (aU (.int a) (.int b) h) Q:=⟨_,rfl,q⟩
theorem w_sub (q:Q (.int (a-b),h)):Rn (wD (.int a) (.int b) h) Q:=⟨_,rfl,q⟩
theorem w_lt (q:Q (.bl (decide (a < b)),h)):Rn (fLt (.int a) (.int b) h) Q:=⟨_,rfl,q⟩
theorem A0 (q:Q (.bl (decide (a≤b)),h)):Rn (fLe (.int a) (.int b) h) Q:=⟨_,rfl,q⟩
theorem A1 (q:Q (.bl (decide (b < a)),h)):Rn (fGt (.int a) (.int b) h) Q:=⟨_,rfl,q⟩
theorem A3 (q:Q (.bl (decide (b≤a)),h)):Rn (fGe (.int a) (.int b) h) Q:=⟨_,rfl,q⟩
theorem zA (q:Q (.bl (a==b),h)):Rn (wG (.int a) (.int b) h) Q:=⟨_,rfl,q⟩
theorem zt (q:Q (.bl (!(a==b)),h)):Rn (gz (.int a) (.int b) h) Q:=⟨_,rfl,q⟩
theorem zz (q:Q (.bl (x==y),h)):Rn (wG (.str x) (.str y) h) Q:=⟨_,rfl,q⟩
theorem zr (q:Q (.bl (!(x==y)),h)):Rn (gz (.str x) (.str y) h) Q:=⟨_,rfl,q⟩
theorem zw (q:Q (d,h)):Rn (fIx (.tup (d::r)) (.int 0) h) Q:=⟨_,by
 show ((atI (d::r) 0).map fun z=>(z,h))=_
 have:atI (d::r) 0=some d:=by unfold atI;rw [show ixN (d::r).length 0=some 0 by unfold ixN;simp;try omega];rfl
 rw [this];rfl,q⟩
theorem zv (q:Q (e,h)):Rn (fIx (.tup (d::e::r)) (.int 1) h) Q:=⟨_,by
 show ((atI (d::e::r) 1).map fun z=>(z,h))=_
 have:atI (d::e::r) 1=some e:=by unfold atI;rw [show ixN (d::e::r).length 1=some 1 by unfold ixN;simp;try omega];rfl
 rw [this];rfl,q⟩
theorem zu (q:Q (f,h)):Rn (fIx (.tup (d::e::f::r)) (.int 2) h) Q:=⟨_,by
 show ((atI (d::e::f::r) 2).map fun z=>(z,h))=_
 have:atI (d::e::f::r) 2=some f:=by unfold atI;rw [show ixN (d::e::f::r).length 2=some 2 by unfold ixN;simp;try omega];rfl
 rw [this];rfl,q⟩
theorem xn (q:Q (.int r.length,h)):Rn (fb [.tup r] h) Q:=⟨_,rfl,q⟩
theorem xo (q:Q (.int r.length,h)):Rn (fb [.lv r] h) Q:=⟨_,rfl,q⟩
end
end Sm
namespace L2
open PySem PySem.Spec PyProof.Rows
section
variable {X:Cx} {nm:Str} {tb:List (Str×List Int)} {i:Expr} {ti:TE} {p pos:Pos}
end
end L2
namespace Sm
open PySem L2 PySem.Spec PyProof.Rows
section
variable {X:Cx} {nm:Str} {tb:List (Str×List Int)} {i:Expr} {mi:EM} {p pos:Pos}
end
end Sm
namespace Hd
open PySem PySem.W PySem.Spec PyProof.Rows L2 Sm
def xj:List Value→Option (List Int)
 | []=>some []
 | .int i _::r=>(xj r).map fun is=>i::is
 | _=>none
def xl (v:Value) (t:String):Bool:=match v with
 | .type s=>decide (s=t)
 | _=>false
def rowAt (h:Heap) (e:DictEntry):Option (Str×Int×List Int):=match e.key with
 | .str x _=>match e.val with
  | .ref t=>match h.get? t with
   | some u=>if xl u.cls "tuple"&&u.dict.isNone then (match u.data with
     | .seq its _=>if its.size≤100 then (xj its.toList).map fun is=>(x,e.hash,is) else none
     | _=>none) else none
   | none=>none
  | _=>none
 | _=>none
def i9 (h:Heap):List DictEntry→Option (List (Str×Int×List Int))
 | []=>some []
 | e::r=>(rowAt h e).bind fun x=>(i9 h r).map fun xs=>x::xs
def tabAt (h:Heap) (nm:Str):Option (List (Str×Int×List Int)):=match h.nsMap mainGlobals nm with
 | some (.ref a)=>if a==sysModules then none else (match h.get? a with
  | some o=>if xl o.cls "dict"&&o.dict.isNone&&decide (o.slots=#[]) then (match o.data with
    | .dict es _=>i9 h es.toList
    | _=>none) else none
  | none=>none)
 | _=>none
abbrev Sub (h h':Heap):Prop:=∀b o,h.get? b=some o→h'.get? b=some o
theorem oM {h h':Heap} (k:Sub h h') {e:DictEntry} {r:Str×Int×List Int} (x:rowAt h e=some r):rowAt h' e=some r:=by
 unfold rowAt at x ⊢
 split at x
 ·split at x
  ·split at x
   ·rename_i u hu
    rw [k _ _ hu]
    exact x
   ·cases x
  ·cases x
 ·cases x
theorem ir {h h':Heap} (k:Sub h h'):∀{es:List DictEntry} {r:List (Str×Int×List Int)},i9 h es=some r→i9 h' es=some r
 | [],_,x=>x
 | e::es,r,x=>by
  unfold i9 at x ⊢
  obtain ⟨y,e1,x⟩:=Option.bind_eq_some_iff.mp x
  obtain ⟨ys,e2,x⟩:=Option.map_eq_some_iff.mp x
  rw [oM k e1,ir k e2]
  exact congrArg some x
theorem xx {h h':Heap} (k:Sub h h') {nm:Str} {r:List (Str×Int×List Int)} (x:tabAt h nm=some r):tabAt h' nm=some r:=by
 have hg:∀v,h.nsMap mainGlobals nm=some v→h'.nsMap mainGlobals nm=some v:=fun v e=>by
  unfold Heap.nsMap at e ⊢
  split at e
  ·rename_i o ho
   rw [k _ _ ho]
   exact e
  ·cases e
 unfold tabAt at x ⊢
 split at x
 ·rename_i a ha
  rw [hg _ ha]
  dsimp only
  split at x
  ·cases x
  ·rename_i hs
   rw [if_neg hs]
   split at x
   ·rename_i o ho
    rw [k _ _ ho]
    dsimp only
    split at x
    ·rename_i hc
     rw [if_pos hc]
     split at x
     ·exact ir k x
     ·cases x
    ·cases x
   ·cases x
 ·cases x
end Hd
namespace L2
open PySem PySem.Spec PyProof.Rows
section
variable {X:Cx} {pins:List (Addr×Obj)} {σ:St} {H H':Hp} {s:Shared} {h':Heap}
theorem Inv.wt {t':Nat} (I:Inv X pins σ H s) (k:∀b u,s.heap.get? b=some u→h'.get? b=some u) (ag:∀b,b < s.heap.objs.size→H' b=H b)
  (new:∀b o,H' b=some o→s.heap.objs.size≤b→a8 X.prog X.w H' h' b o):Inv X pins σ H' {s with heap:=h',toks:=t'}:=by
 have tr:∀b o,H b=some o→H' b=some o:=fun b o e=>by rw [ag b (I.hok.lt e)];exact e
 refine I.un ⟨fun b u q _ _ _=>k b u q,fun b u q _ _ _=>⟨u.slots,k b u q⟩,fun b u q n _=>by rw [ag b (Heap.lt_size q)];exact n,fun b u q _=>⟨u,k b u q⟩,fun b xs q=>tr b _ q,fun b u xs q=>tr b _ q,fun b ps q=>⟨#[],by rw [tr b _ q];simp⟩⟩ fun b o e=>?_
 by_cases hb:b < s.heap.objs.size
 ·have e':H b=some o:=by rw [←ag b hb];exact e
  exact (I.hok b o e').iD (fun c v _ q=>k c v q) (fun c q=>tr c _ q) fun c xs q=>tr c _ q
 ·exact new b o e (Nat.le_of_not_lt hb)
def gK (H:Hp):List Addr→List (List V)→Hp
 | a::as,t::ts=>upd (gK H as ts) a (.tup t)
 | _,_=>H
theorem eJ {b:Addr}:∀{as:List Addr} {ts:List (List V)},b∉as→gK H as ts b=H b
 | [],_,_=>rfl
 | _::_,[],_=>rfl
 | a::as,t::ts,h=>by
  rw [gK,ai fun z=>h (by rw [z];exact List.mem_cons_self)]
  exact eJ fun z=>h (List.mem_cons_of_mem _ z)
theorem pL:∀{as:List Addr} {ts:List (List V)} {b:Addr} {o:HO},as.length=ts.length→gK H as ts b=some o→b∈as→∃(j:Nat) (t:List V),as[j]?=some b∧ts[j]?=some t∧o=.tup t
 | a::as,t::ts,b,o,hl,e,hb=>by
  by_cases z:b=a
  ·subst z
   rw [gK,ar] at e
   cases e
   exact ⟨0,t,rfl,rfl,rfl⟩
  ·rw [gK,ai z] at e
   obtain ⟨j,t',e1,e2,e3⟩:=pL (by simpa using hl) e ((List.mem_cons.mp hb).resolve_left z)
   exact ⟨j+1,t',by simpa using e1,by simpa using e2,e3⟩
theorem kr:∀as:List Addr,Vals (as.map V.ref) (as.map Value.ref)
 | []=>.nil
 | a::r=>.cons rfl (kr r)
theorem xi {κ:Type}:∀{kvs:List (κ×V)} {vs:List (κ×Value)} {j:Nat} {p:κ×V} {k:κ} {x:Value},KV kvs vs→kvs[j]?=some p→vs[j]?=some (k,x)→p.1=k∧RelV p.2 x
 | _,_,0,p,k,x,.cons r _,e,e'=>by cases e;cases e';exact r
 | _,_,j+1,p,k,x,.cons _ t,e,e'=>xi (j:=j) t (by simpa using e) (by simpa using e')
theorem AH {P:Program} {w:World} {k:Key} {v:Value} (h:(au P w).is k v=true):RelV (kV k) v:=by
 rw [o7] at h
 rcases aT h with ⟨i,t,rfl,rfl⟩ | ⟨x,t,rfl,rfl⟩
 ·exact ⟨_,rfl⟩
 ·exact ⟨_,rfl⟩
theorem rh {o:Expr} {to:TE} {p pos apos cpos:Pos} (hc:X.calm=true) (hg:Gl X "list") (hm:X.mg "list"=none) (hv:bootBuiltins "list"=some (.type "list")) (ho:PE X o to)
  (hbase:attributeBase o "items" X.env (eval o X.env)=eval o X.env) (hline:(apos.endLine==cpos.line)=true):
  PE X (.Call (.Name "list" p) [.Call (.Attribute o "items" apos) [] [] cpos] [] pos) (fun σ H Q=>to σ H fun v H1=>∃a kvs,v=.ref a∧H1 a=some (.dK kvs)∧
   ∀(bs:List Addr) (l:Addr),bs.length=kvs.length→bs.Nodup→l∉bs→(∀b∈bs,H1 b=none)→H1 l=none→Q (.ref l) (upd (gK H1 bs (kvs.map fun q=>[kV q.1,q.2])) l (.lst (bs.map V.ref)))):=by
 intro pins s σ H Q I h
 refine wpAny_Call_Name_kw (fU I hg hm hv ?_)
 refine PyProof.Rows.callWith_type1 ?_ rfl rfl
 show wpAny _ _ (spliced ((false,eval (.Call (.Attribute o "items" apos) [] [] cpos) X.env)::backTo pos (starEach [] X.env))) _ _ s
 refine Calls.spliced_cons ?_
 refine wpAny_Call_method0_late hbase hline (thn (ho pins s σ H _ I h) fun v s1 ⟨x,H1,I1,r1,q1⟩=>?_)
 obtain ⟨a,kvs,rfl,ha,q⟩:=q1
 cases r1
 obtain ⟨z,hd,vs,rel,hD⟩:=fc I1.hok ha
 obtain ⟨ob,es,ep,e1,e2,e3,e4⟩:=id hD
 refine ⟨"dict","dict.items",F.plainAttrs_dict,F.slot_dict_items,F.type_dict_items,hD.typeIs,hD.mapOf.noDict,?_⟩
 refine method_meetsIn F.slot_dict_items F.entry_dict_items rfl (PySem.evalArgs_none ⟨rfl,hD.typeIs,F.args_dict_items_1 _,_,meets_dict_items (au X.prog X.w) a hd,⟨vs,hD⟩,?_⟩)
 have I2:Inv X pins σ H1 {s1 with heap:=s1.heap.push {cls:=.type "dict_items",data:=.fields #[.ref a]}}:=I1.kept (t':=s1.toks) fun b o e=>Heap.get?_push_of_some _ e
 refine Calls.spliced_nil ?_
 have hl:=rel.length
 refine PySem.W.kdx_call (knd:=au X.prog X.w) (kvs:=vs) (ep:=ep) (d:=a) (I1.ok.hd hc) ⟨_,Heap.get?_push_size _ rfl,rfl,rfl⟩ ⟨ob,es,Heap.get?_push_of_some _ e1,e2,e3,e4⟩ (by omega) fun h' tk acc c as hk hS hal hG hacc=>?_
 generalize hs2:s1.heap.push {cls:=.type "dict_items",data:=.fields #[.ref a]}=g2 at I2 hk hS hG ⊢
 have hL:H1 g2.objs.size=none:=I2.hok.fresh (Nat.le_refl _)
 have hab:∀b∈as,g2.objs.size < b:=hG.above
 have hnd:as.Nodup:=hG.rise.imp fun h=>Nat.ne_of_lt h
 have hLn:g2.objs.size∉as:=fun z=>Nat.lt_irrefl _ (hab _ z)
 have hlen:as.length=(kvs.map fun q=>[kV q.1,q.2]).length:=by rw [List.length_map,hal,hl]
 refine ⟨.ref g2.objs.size,upd (gK H1 as (kvs.map fun q=>[kV q.1,q.2])) g2.objs.size (.lst (as.map V.ref)),?_,rfl,q as _ (by rw [hal,hl]) hnd hLn (fun b hb=>I2.hok.fresh (Nat.le_of_lt (hab b hb))) hL⟩
 refine I2.wt (t':=tk) hk (fun b hb=>?_) fun b u e hb=>?_
 ·rw [ai (Nat.ne_of_lt hb),eJ fun z=>Nat.lt_irrefl _ (Nat.lt_trans hb (hab b z))]
 ·by_cases hbL:b=g2.objs.size
  ·subst hbL
   rw [ar] at e
   cases e
   refine ⟨by rw [List.length_map,hal];omega,acc.toList,c,?_,by rw [hS]⟩
   rw [hacc]
   exact kr as
  ·rw [ai hbL] at e
   by_cases hba:b∈as
   ·obtain ⟨j,t,e5,e6,rfl⟩:=pL hlen e hba
    obtain ⟨key,k,x,e7,e8,e9⟩:=hG.pairs j b e5
    rw [List.getElem?_map] at e6
    obtain ⟨kv,e10,rfl⟩:=Option.map_eq_some_iff.mp e6
    obtain ⟨r1,r2⟩:=xi rel e10 e7
    refine ⟨by show 2≤sizeLine;rw [sizeLine_eq];omega,[key,x],.cons ?_ (.cons r2 .nil),_,e9,rfl,⟨_,rfl⟩,rfl⟩
    rw [r1]
    exact AH e8
   ·rw [eJ hba] at e
    exact absurd (I2.hok.lt e) (Nat.not_lt.mpr hb)
end
end L2
namespace Sm
open PySem L2 PySem.Spec PyProof.Rows
section
variable {X:Cx}
def fW:List (Key×D)→Option (List D)
 | []=>some []
 | (k,v)::r=>(pf k).bind fun d=>(fW r).map fun ds=>.tup [d,v]::ds
def pH (m:EM):AM:=fun δ h=>(m δ h).bind fun p=>(bp p.1 p.2).bind fun kvs=>(fW kvs).map fun ds=>(ds,p.2)
theorem zQ {K:PySem.W.Frag} {ρ:Ad} {h:MH}:∀{us:List (Key×V)} {kvs:List (Key×D)} {ds:List D} {bs:List Addr} {H:Hp},Sim K ρ h H→RepK K ρ H us kvs→fW kvs=some ds→bs.length=us.length→bs.Nodup→(∀b∈bs,H b=none)→
  ∃ρ',Stp ρ H ρ' (gK H bs (us.map fun q=>[kV q.1,q.2]))∧Sim K ρ' h (gK H bs (us.map fun q=>[kV q.1,q.2]))∧RepL K ρ' (gK H bs (us.map fun q=>[kV q.1,q.2])) (bs.map V.ref) ds
 | [],_,ds,[],H,S,.nil,e,_,_,_=>by cases e;exact ⟨ρ,Stp.refl _ _,S,.nil⟩
 | (k,v)::us,(_,d)::kvs,ds,b::bs,H,S,.cons r l,e,hl,nd,hf=>by
  obtain ⟨dk,e1,e2⟩:=bnd e
  obtain ⟨ds',e3,e4⟩:=mpd e2
  subst e4
  rw [List.nodup_cons] at nd
  obtain ⟨ρ1,T1,S1,l1⟩:=zQ S l e3 (by simpa using hl) nd.2 fun c hc=>hf c (List.mem_cons_of_mem _ hc)
  have hb:gK H bs (us.map fun q=>[kV q.1,q.2]) b=none:=by rw [eJ nd.1];exact hf b List.mem_cons_self
  have rk:Rep K ρ1 (gK H bs (us.map fun q=>[kV q.1,q.2])) (kV k) dk:=by
   cases k with
   | inl i=>cases e1;exact .int i
   | inr x=>
    have e1:(if PyData.strOk x=true then some (D.str x) else none)=some dk:=e1
    by_cases hx:PyData.strOk x=true
    ·rw [if_pos hx] at e1;cases e1;exact .str hx
    ·rw [if_neg hx] at e1;cases e1
  obtain ⟨ρ2,T2,S2,r2⟩:=bM.tup S1 (.cons rk (.cons (r.mono T1.toCh) .nil)) hb
  exact ⟨ρ2,T1.trans T2,S2,.cons r2 (l1.mono T2.toCh)⟩
theorem qS {o:Expr} {m:EM} {p pos apos cpos:Pos} (hc:X.calm=true) (hg:Gl X "list") (hm:X.mg "list"=none) (hv:bootBuiltins "list"=some (.type "list")) (ho:SE X o m)
  (hbase:attributeBase o "items" X.env (eval o X.env)=eval o X.env:=by kernel_rfl) (hline:(apos.endLine==cpos.line)=true:=by kernel_rfl):
  SFL X (.Call (.Name "list" p) [.Call (.Attribute o "items" apos) [] [] cpos] [] pos) (pH m):=(rh hc hg hm hv ho hbase hline).imp fun σ H Q ⟨ρ,δ,h,ds,h',R,S,e,k⟩=>by
 obtain ⟨⟨x,h1⟩,e1,e2⟩:=bnd e
 obtain ⟨kvs,e3,e4⟩:=bnd e2
 obtain ⟨ds',e5,e6⟩:=mpd e4
 cases e6
 refine ⟨ρ,δ,h,x,h1,R,S,e1,fun v H1 ⟨ρ1,T1,S1,r1⟩=>?_⟩
 obtain ⟨a,us,rfl,ha,la⟩:=cA S1 r1 e3
 refine ⟨a,us,rfl,ha,fun bs l hl nd hln hf hlf=>?_⟩
 obtain ⟨ρ2,T2,S2,l2⟩:=zQ S1 la e5 hl nd hf
 exact k ρ2 _ l _ (T1.trans T2) S2 (by rw [eJ hln];exact hlf) l2
end
end Sm
namespace Wy
variable {W:Type}
abbrev Fact (W:Type):=W×W×Int
inductive Way (fs:List (Fact W)):W→W→Int→Prop where
 | one {a b:W} {c:Int}:(a,b,c)∈fs→Way fs a b c
 | cons {a b d:W} {c e:Int}:(a,b,c)∈fs→Way fs b d e→Way fs a d (c+e)
def Neg (fs:List (Fact W)):Prop:=∃a c,Way fs a a c∧c < 0
def Fol (fs:List (Fact W)) (f:Fact W):Prop:=Neg fs∨∃d,Way fs f.1 f.2.1 d∧d≤f.2.2
theorem Way.trans {fs:List (Fact W)} {a b d:W} {c e:Int} (x:Way fs a b c) (y:Way fs b d e):Way fs a d (c+e):=by
 induction x with
 | one h=>exact .cons h y
 | cons h _ ih=>have:=Way.cons h (ih y);rwa [←Int.add_assoc] at this
theorem Way.snoc {fs:List (Fact W)} {a b d:W} {c e:Int} (x:Way fs a b c) (h:(b,d,e)∈fs):Way fs a d (c+e):=x.trans (.one h)
end Wy
namespace Wy
variable {W:Type} [DecidableEq W]
structure S (W:Type) where
 sums:W→Option Int
 last:W→Option Nat
 stamp:W→Nat
 clock:Nat
def put {α:Type} (f:W→α) (w:W) (v:α):W→α:=fun x=>if x=w then v else f x
theorem aB {α:Type} {f:W→α} {w:W} {v:α}:put f w v w=v:=by unfold put;rw [if_pos rfl]
theorem aP {α:Type} {f:W→α} {w x:W} {v:α} (h:x≠w):put f w v x=f x:=by unfold put;rw [if_neg h]
def less (v:Int):Option Int→Bool
 | none=>true
 | some o=>decide (v < o)
def bP (i:Nat) (f:Fact W) (s:S W):S W:=match s.sums f.1 with
 | none=>s
 | some u=>if less (u+f.2.2) (s.sums f.2.1) then {sums:=put s.sums f.2.1 (some (u+f.2.2)),last:=put s.last f.2.1 (some i),stamp:=put s.stamp f.2.1 (s.clock+1),clock:=s.clock+1} else s
structure IB (fs:List (Fact W)) (s:S W):Prop where
 pred:∀w i,s.last w=some i→∃p m u v,fs[i]?=some (p,w,m)∧s.sums p=some u∧s.sums w=some v∧u+m≤v∧(s.stamp w≤s.stamp p→u+m < v)
 st:∀w,1≤s.stamp w↔∃i,s.last w=some i
 le:∀w,s.stamp w≤s.clock
theorem gp {fs:List (Fact W)} {s:S W} {i:Nat} {f:Fact W} (hf:fs[i]?=some f) (I:IB fs s):IB fs (bP i f s):=by
 obtain ⟨p0,w0,m0⟩:=f
 unfold bP
 dsimp only
 cases hp:s.sums p0 with
 | none=>exact I
 | some u0=>
  dsimp only
  by_cases hl:less (u0+m0) (s.sums w0)=true
  ·rw [if_pos hl]
   refine ⟨fun w j hj=>?_,fun w=>?_,fun w=>?_⟩
   ·dsimp only at hj ⊢
    by_cases hw:w=w0
    ·subst hw
     rw [aB] at hj
     cases hj
     by_cases hpw:p0=w
     ·subst hpw
      rw [hp] at hl
      have:u0+m0 < u0:=of_decide_eq_true hl
      exact ⟨p0,m0,u0+m0,u0+m0,hf,aB,aB,by omega,fun _=>by omega⟩
     ·refine ⟨p0,m0,u0,u0+m0,hf,(aP hpw).trans hp,aB,Int.le_refl _,fun z=>?_⟩
      rw [aB,aP hpw] at z
      have:=I.le p0
      omega
    ·rw [aP hw] at hj
     obtain ⟨p,m,u,v,e1,e2,e3,l,q⟩:=I.pred w j hj
     by_cases hpw:p=w0
     ·subst hpw
      rw [e2] at hl
      have:u0+m0 < u:=of_decide_eq_true hl
      exact ⟨p,m,u0+m0,v,e1,aB,(aP hw).trans e3,by omega,fun _=>by omega⟩
     ·exact ⟨p,m,u,v,e1,(aP hpw).trans e2,(aP hw).trans e3,l,fun z=>q (by rw [aP hw,aP hpw] at z;exact z)⟩
   ·dsimp only
    by_cases hw:w=w0
    ·subst hw
     rw [aB,aB]
     exact ⟨fun _=>⟨i,rfl⟩,fun _=>by omega⟩
    ·rw [aP hw,aP hw]
     exact I.st w
   ·dsimp only
    by_cases hw:w=w0
    ·subst hw
     rw [aB]
     exact Nat.le_refl _
    ·rw [aP hw]
     have:=I.le w
     omega
  ·rw [if_neg hl]
   exact I
def back (fs:List (Fact W)) (s:S W) (w:W):Option W:=(s.last w).bind fun i=>(fs[i]?).map (·.1)
def aO (fs:List (Fact W)) (s:S W):Nat→W→Option W
 | 0,w=>some w
 | k+1,w=>(aO fs s k w).bind (back fs s)
theorem om {fs:List (Fact W)} {s:S W} (I:IB fs s) {w x:W} (h:back fs s w=some x):∃m u v,(x,w,m)∈fs∧s.sums x=some u∧s.sums w=some v∧u+m≤v∧(s.stamp w≤s.stamp x→u+m < v):=by
 unfold back at h
 obtain ⟨i,e1,e2⟩:=Option.bind_eq_some_iff.mp h
 obtain ⟨p,m,u,v,e3,r⟩:=I.pred w i e1
 rw [e3] at e2
 cases e2
 exact ⟨m,u,v,List.mem_of_getElem? e3,r⟩
theorem lA {fs:List (Fact W)} {s:S W} (I:IB fs s) (w:W):∀(k:Nat) (x:W),aO fs s (k+1) w=some x→∃c u v,Way fs x w c∧s.sums x=some u∧s.sums w=some v∧u+c≤v∧(u+c < v∨s.stamp x < s.stamp w)
 | 0,x,h=>by
  obtain ⟨m,u,v,e,e1,e2,l,q⟩:=om I (show back fs s w=some x from h)
  refine ⟨m,u,v,.one e,e1,e2,l,?_⟩
  by_cases z:s.stamp w≤s.stamp x
  ·exact .inl (q z)
  ·exact .inr (by omega)
 | k+1,x,h=>by
  obtain ⟨y,e1,e2⟩:=Option.bind_eq_some_iff.mp (show (aO fs s (k+1) w).bind (back fs s)=some x from h)
  obtain ⟨c,u,v,wy,s1,s2,l,q⟩:=lA I w k y e1
  obtain ⟨m,u',v',e,s3,s4,l',q'⟩:=om I e2
  rw [s1] at s4
  cases s4
  refine ⟨m+c,u',v,.cons e wy,s3,s2,by omega,?_⟩
  rcases q with q | q
  ·exact .inl (by omega)
  ·by_cases z:s.stamp y≤s.stamp x
   ·have:=q' z
    exact .inl (by omega)
   ·exact .inr (by omega)
theorem nj {fs:List (Fact W)} {s:S W} (I:IB fs s) {w:W} {k:Nat} (h:aO fs s (k+1) w=some w):Neg fs:=by
 obtain ⟨c,u,v,wy,s1,s2,l,q⟩:=lA I w k w h
 rw [s1] at s2
 cases s2
 refine ⟨w,c,wy,?_⟩
 rcases q with q | q
 ·omega
 ·exact absurd q (Nat.lt_irrefl _)
end Wy
namespace Wy
variable {W:Type} [DecidableEq W]
def kept (s:S W) (f:Fact W):Prop:=∀u,s.sums f.1=some u→∃v,s.sums f.2.1=some v∧v≤u+f.2.2
structure Lt (s t:S W):Prop where
 clock:s.clock≤t.clock
 stamp:∀w,s.stamp w≤t.stamp w
 sums:∀w v,s.sums w=some v→∃v',t.sums w=some v'∧v'≤v
 same:∀w,t.stamp w≤s.clock→t.sums w=s.sums w∧t.last w=s.last w∧t.stamp w=s.stamp w
theorem Lt.refl (s:S W):Lt s s:=⟨Nat.le_refl _,fun _=>Nat.le_refl _,fun w v h=>⟨v,h,Int.le_refl _⟩,fun _ _=>⟨rfl,rfl,rfl⟩⟩
theorem Lt.trans {a b c:S W} (x:Lt a b) (y:Lt b c):Lt a c:=by
 refine ⟨Nat.le_trans x.clock y.clock,fun w=>Nat.le_trans (x.stamp w) (y.stamp w),fun w v h=>?_,fun w h=>?_⟩
 ·obtain ⟨v',h1,l1⟩:=x.sums w v h
  obtain ⟨v'',h2,l2⟩:=y.sums w v' h1
  exact ⟨v'',h2,Int.le_trans l2 l1⟩
 ·obtain ⟨e1,e2,e3⟩:=y.same w (Nat.le_trans h x.clock)
  obtain ⟨e4,e5,e6⟩:=x.same w (by rw [←e3];exact h)
  exact ⟨e1.trans e4,e2.trans e5,e3.trans e6⟩
theorem gm {fs:List (Fact W)} {s:S W} (I:IB fs s) (i:Nat) (f:Fact W):Lt s (bP i f s):=by
 obtain ⟨p0,w0,m0⟩:=f
 unfold bP
 dsimp only
 cases hp:s.sums p0 with
 | none=>exact .refl s
 | some u0=>
  dsimp only
  by_cases hl:less (u0+m0) (s.sums w0)=true
  ·rw [if_pos hl]
   refine ⟨Nat.le_succ _,fun w=>?_,fun w v h=>?_,fun w h=>?_⟩
   ·dsimp only
    by_cases hw:w=w0
    ·subst hw;rw [aB];exact Nat.le_succ_of_le (I.le w)
    ·rw [aP hw];exact Nat.le_refl _
   ·dsimp only
    by_cases hw:w=w0
    ·subst hw
     rw [h] at hl
     have:u0+m0 < v:=of_decide_eq_true hl
     exact ⟨_,aB,by omega⟩
    ·exact ⟨v,(aP hw).trans h,Int.le_refl _⟩
   ·dsimp only at h ⊢
    by_cases hw:w=w0
    ·subst hw;rw [aB] at h;omega
    ·exact ⟨aP hw,aP hw,aP hw⟩
  ·rw [if_neg hl];exact .refl s
theorem qh {s t:S W} (x:Lt s t) {f:Fact W} {c:Nat} (hc:c≤s.clock) (h:s.stamp f.1≤c→kept s f):t.stamp f.1≤c→kept t f:=fun z u hu=>by
 obtain ⟨e1,_,e3⟩:=x.same f.1 (Nat.le_trans z hc)
 rw [e1] at hu
 obtain ⟨v,h1,l1⟩:=h (by rw [←e3];exact z) u hu
 obtain ⟨v',h2,l2⟩:=x.sums _ _ h1
 exact ⟨v',h2,Int.le_trans l2 l1⟩
theorem oQ {fs:List (Fact W)} {s:S W} (I:IB fs s) (i:Nat) (f:Fact W):(bP i f s).stamp f.1≤s.clock→kept (bP i f s) f:=by
 obtain ⟨p0,w0,m0⟩:=f
 unfold bP
 dsimp only
 cases hp:s.sums p0 with
 | none=>intro _ u hu;dsimp only at hu;rw [hp] at hu;cases hu
 | some u0=>
  dsimp only
  by_cases hl:less (u0+m0) (s.sums w0)=true
  ·rw [if_pos hl]
   intro z u hu
   dsimp only at z hu ⊢
   by_cases hpw:p0=w0
   ·subst hpw;rw [aB] at z;omega
   ·rw [aP hpw,hp] at hu
    cases hu
    exact ⟨_,aB,Int.le_refl _⟩
  ·rw [if_neg hl]
   intro _ u hu
   dsimp only at hu ⊢
   rw [hp] at hu
   cases hu
   cases hw:s.sums w0 with
   | none=>rw [hw] at hl;exact absurd rfl hl
   | some v=>
    rw [hw] at hl
    have:¬u0+m0 < v:=fun z=>hl (decide_eq_true z)
    exact ⟨v,rfl,by omega⟩
def turn:List (Fact W)→Nat→S W→S W
 | [],_,s=>s
 | f::r,i,s=>turn r (i+1) (bP i f s)
theorem pO {fs:List (Fact W)}:∀(l:List (Fact W)) (i:Nat) (s:S W),fs.drop i=l→IB fs s→IB fs (turn l i s)
 | [],_,_,_,I=>I
 | f::r,i,s,e,I=>by
  have hf:fs[i]?=some f:=by have:=congrArg (fun l=>l[0]?) e;simpa using this
  have hr:fs.drop (i+1)=r:=by have:=congrArg List.tail e;simpa using this
  exact pO r (i+1) _ hr (gp hf I)
theorem lF {fs:List (Fact W)}:∀(l:List (Fact W)) (i:Nat) (s:S W),fs.drop i=l→IB fs s→Lt s (turn l i s)
 | [],_,s,_,_=>.refl s
 | f::r,i,s,e,I=>by
  have hf:fs[i]?=some f:=by have:=congrArg (fun l=>l[0]?) e;simpa using this
  have hr:fs.drop (i+1)=r:=by have:=congrArg List.tail e;simpa using this
  exact (gm I i f).trans (lF r (i+1) _ hr (gp hf I))
theorem kC {fs:List (Fact W)} (c:Nat):∀(l:List (Fact W)) (i:Nat) (s:S W),fs.drop i=l→IB fs s→c≤s.clock→∀f∈l,(turn l i s).stamp f.1≤c→kept (turn l i s) f
 | [],_,_,_,_,_,f,hf=>by cases hf
 | g::r,i,s,e,I,hc,f,hf=>by
  have hg:fs[i]?=some g:=by have:=congrArg (fun l=>l[0]?) e;simpa using this
  have hr:fs.drop (i+1)=r:=by have:=congrArg List.tail e;simpa using this
  have I1:=gp hg I
  have L1:=gm I i g
  rcases List.mem_cons.mp hf with rfl | hf
  ·exact qh (lF r (i+1) _ hr I1) (Nat.le_trans hc L1.clock) fun z=>oQ I i f (Nat.le_trans z hc)
  ·exact kC c r (i+1) _ hr I1 (Nat.le_trans hc L1.clock) f hf
end Wy
namespace Wy
variable {W:Type} [DecidableEq W]
def Qc (fs:List (Fact W)) (c:Nat) (s:S W):Prop:=∀f∈fs,s.stamp f.1≤c→kept s f
def Rc (fs:List (Fact W)) (c' c:Nat) (s:S W):Prop:=∀w x,back fs s w=some x→c < s.stamp w→c' < s.stamp x
theorem Qc.down {fs:List (Fact W)} {c c':Nat} {s:S W} (h:Qc fs c s) (l:c'≤c):Qc fs c' s:=fun f hf z=>h f hf (Nat.le_trans z l)
theorem Qc.lt {fs:List (Fact W)} {c:Nat} {s t:S W} (h:Qc fs c s) (x:Lt s t) (hc:c≤s.clock):Qc fs c t:=fun f hf=>qh x hc (h f hf)
theorem sZ {fs:List (Fact W)} {s:S W} {i c c':Nat} {f:Fact W} (I:IB fs s) (hf:fs[i]?=some f) (hQ:Qc fs c' s) (hc:c'≤s.clock) (hR:Rc fs c' c s):Rc fs c' c (bP i f s):=by
 obtain ⟨p0,w0,m0⟩:=f
 have hm:=List.mem_of_getElem? hf
 have hL:=gm I i (p0,w0,m0)
 revert hL
 unfold bP
 dsimp only
 cases hp:s.sums p0 with
 | none=>intro _;exact hR
 | some u0=>
  dsimp only
  by_cases hl:less (u0+m0) (s.sums w0)=true
  ·rw [if_pos hl]
   intro hL w x hb hw
   unfold back at hb
   dsimp only at hb hw ⊢
   by_cases e:w=w0
   ·subst e
    rw [aB] at hb
    have hb':((fs[i]?).map fun y=>y.1)=some x:=hb
    rw [hf] at hb'
    cases hb'
    by_cases e:p0=w
    ·subst e;rw [aB];omega
    ·rw [aP e]
     refine Nat.lt_of_not_le fun z=>?_
     obtain ⟨v,h1,h2⟩:=hQ _ hm z u0 hp
     dsimp only at h1 h2
     rw [h1] at hl
     have:u0+m0 < v:=of_decide_eq_true hl
     omega
   ·rw [aP e] at hb hw
    exact Nat.lt_of_lt_of_le (hR w x hb hw) (hL.stamp x)
  ·rw [if_neg hl];intro _;exact hR
theorem pN {fs:List (Fact W)} {c c':Nat}:∀(l:List (Fact W)) (i:Nat) (s:S W),fs.drop i=l→IB fs s→Qc fs c' s→c'≤s.clock→Rc fs c' c s→Rc fs c' c (turn l i s)
 | [],_,_,_,_,_,_,h=>h
 | f::r,i,s,e,I,hQ,hc,h=>by
  have hf:fs[i]?=some f:=by have:=congrArg (fun l=>l[0]?) e;simpa using this
  have hr:fs.drop (i+1)=r:=by have:=congrArg List.tail e;simpa using this
  have L:=gm I i f
  exact pN r (i+1) _ hr (gp hf I) (hQ.lt L hc) (Nat.le_trans hc L.clock) (sZ I hf hQ hc h)
def runs (fs:List (Fact W)) (s:S W):Nat→S W
 | 0=>s
 | t+1=>turn fs 0 (runs fs s t)
theorem cu {fs:List (Fact W)} {s:S W} (I:IB fs s):∀t,IB fs (runs fs s t)
 | 0=>I
 | t+1=>pO fs 0 _ rfl (cu I t)
theorem pW {fs:List (Fact W)} {s:S W} (I:IB fs s) (t:Nat):Lt (runs fs s t) (runs fs s (t+1)):=lF fs 0 _ rfl (cu I t)
theorem fZ {fs:List (Fact W)} {s:S W} (I:IB fs s):∀{a b:Nat},a≤b→(runs fs s a).clock≤(runs fs s b).clock
 | a,0,h=>by rw [Nat.le_zero.mp h];exact Nat.le_refl _
 | a,b+1,h=>by
  rcases Nat.lt_or_eq_of_le h with z | z
  ·exact Nat.le_trans (fZ I (Nat.le_of_lt_succ z)) (pW I b).clock
  ·rw [z];exact Nat.le_refl _
theorem lQ {fs:List (Fact W)} {s:S W} (I:IB fs s) (t:Nat):Qc fs (runs fs s t).clock (runs fs s (t+1)):=fun f hf=>kC _ fs 0 _ rfl (cu I t) (Nat.le_refl _) f hf
theorem pX {fs:List (Fact W)} {s:S W} (I:IB fs s):∀(T j:Nat),j+1 < T→Rc fs (runs fs s j).clock (runs fs s (j+1)).clock (runs fs s T)
 | 0,j,h=>by omega
 | T+1,j,h=>by
  cases T with
  | zero=>omega
  | succ T=>
   have hQ:Qc fs (runs fs s j).clock (runs fs s (T+1)):=(lQ I T).down (fZ I (by omega))
   refine pN fs 0 _ rfl (cu I _) hQ (fZ I (by omega)) ?_
   by_cases z:j+1 < T+1
   ·exact pX I (T+1) j z
   ·have:j=T:=by omega
    subst this
    intro w x _ hw
    exact absurd ((cu I (j+1)).le w) (by omega)
theorem gJ {fs:List (Fact W)} {s:S W} (I:IB fs s) {T:Nat} {w:W} (hw:(runs fs s T).clock < (runs fs s (T+1)).stamp w):∀k,k≤T→∃x,aO fs (runs fs s (T+1)) k w=some x∧(runs fs s (T-k)).clock < (runs fs s (T+1)).stamp x
 | 0,_=>⟨w,rfl,hw⟩
 | k+1,h=>by
  obtain ⟨x,e,l⟩:=gJ I hw k (by omega)
  have IT:=cu I (T+1)
  obtain ⟨i,hi⟩:=(IT.st x).mp (by omega)
  obtain ⟨p,m,u,v,e1,_⟩:=IT.pred x i hi
  have hb:back fs (runs fs s (T+1)) x=some p:=by unfold back;rw [hi];show (fs[i]?).map _=_;rw [e1];rfl
  refine ⟨p,by unfold aO;rw [e];exact hb,?_⟩
  have ej:T-k=(T-(k+1))+1:=by omega
  rw [ej] at l
  exact pX I (T+1) (T-(k+1)) (by omega) x p hb l
end Wy
namespace Wy
variable {W:Type} [DecidableEq W]
theorem dy:∀(l ws:List W),l.Nodup→(∀x∈l,x∈ws)→l.length≤ws.length
 | [],_,_,_=>Nat.zero_le _
 | x::r,ws,h,hs=>by
  have hx:x∈ws:=hs x List.mem_cons_self
  have hn:=List.nodup_cons.mp h
  have:=dy r (ws.erase x) hn.2 fun y hy=>by
   have hne:y≠x:=fun e=>hn.1 (e ▸ hy)
   exact (List.mem_erase_of_ne hne).mpr (hs y (List.mem_cons_of_mem _ hy))
  rw [List.length_erase_of_mem hx] at this
  have hp:0 < ws.length:=List.length_pos_of_mem hx
  rw [List.length_cons]
  omega
theorem xk (f:Nat→W) (ws:List W) (L:Nat) (h:∀k,k≤L→f k∈ws) (hl:ws.length≤L):∃a b,a < b∧b≤L∧f a=f b:=by
 refine Classical.byContradiction fun no=>?_
 have hn:((List.range (L+1)).map f).Nodup:=by
  refine List.pairwise_map.mpr (List.Pairwise.imp_of_mem ?_ (List.pairwise_lt_range (n:=L+1)))
  intro a b ha hb hab e
  exact no ⟨a,b,hab,by have:=List.mem_range.mp hb;omega,e⟩
 have:=dy _ ws hn fun x hx=>by
  obtain ⟨k,hk,rfl⟩:=List.mem_map.mp hx
  exact h k (by have:=List.mem_range.mp hk;omega)
 rw [List.length_map,List.length_range] at this
 omega
theorem cn {fs:List (Fact W)} {s:S W} (a:Nat) (w:W):∀k,aO fs s (a+k) w=(aO fs s a w).bind (aO fs s k)
 | 0=>by
  show aO fs s a w=_
  cases aO fs s a w <;> rfl
 | k+1=>by
  show (aO fs s (a+k) w).bind (back fs s)=_
  rw [cn a w k]
  cases aO fs s a w <;> rfl
theorem lR {fs:List (Fact W)} {s:S W} {w:W} {ws:List W} {L:Nat} (h:∀k,k≤L→∃x,aO fs s k w=some x∧x∈ws) (hl:ws.length≤L):∃x r,aO fs s L w=some x∧r+1≤L∧aO fs s (r+1) x=some x:=by
 have hf:∀k,k≤L→∃x,aO fs s k w=some x:=fun k hk=>let ⟨x,e,_⟩:=h k hk;⟨x,e⟩
 obtain ⟨a,b,hab,hb,e⟩:=xk (fun k=>(aO fs s k w).getD w) ws L (fun k hk=>by obtain ⟨x,e,m⟩:=h k hk;rw [e];exact m) hl
 obtain ⟨xa,ea⟩:=hf a (by omega)
 obtain ⟨xb,eb⟩:=hf b hb
 rw [ea,eb] at e
 have e':xa=xb:=e
 subst e'
 obtain ⟨x,ex⟩:=hf L (Nat.le_refl _)
 refine ⟨x,b-a-1,ex,by omega,?_⟩
 have h1:aO fs s (L-a) xa=some x:=by
  have:=cn (fs:=fs) (s:=s) a w (L-a)
  rw [ea,show a+(L-a)=L by omega,ex] at this
  exact this.symm
 have h2:aO fs s (b+(L-a)) w=some x:=by
  rw [cn,eb]
  exact h1
 have h3:=cn (fs:=fs) (s:=s) L w (b-a-1+1)
 rw [ex,show L+(b-a-1+1)=b+(L-a) by omega,h2] at h3
 exact h3.symm
theorem jv {fs:List (Fact W)} {s:S W} (I:IB fs s) {ws:List W} (hws:∀f∈fs,f.2.1∈ws) {w:W} (hw:(runs fs s ws.length).clock < (runs fs s (ws.length+1)).stamp w):Neg fs:=by
 have IT:=cu I (ws.length+1)
 obtain ⟨x,r,_,_,hr⟩:=lR (fs:=fs) (s:=runs fs s (ws.length+1)) (w:=w) (ws:=ws) (L:=ws.length) (fun k hk=>by
  obtain ⟨x,e,l⟩:=gJ I hw k hk
  refine ⟨x,e,?_⟩
  obtain ⟨i,hi⟩:=(IT.st x).mp (by omega)
  obtain ⟨p,m,u,v,e1,_⟩:=IT.pred x i hi
  exact hws _ (List.mem_of_getElem? e1)) (Nat.le_refl _)
 exact nj IT hr
theorem mO {fs:List (Fact W)} {s:S W} (h:∀f∈fs,kept s f) {a b:W} {c u:Int} (x:Way fs a b c) (ha:s.sums a=some u):∃v,s.sums b=some v∧v≤u+c:=by
 induction x generalizing u with
 | one m=>exact h _ m u ha
 | cons m _ ih=>
  obtain ⟨v,e,l⟩:=h _ m u ha
  obtain ⟨v',e',l'⟩:=ih e
  exact ⟨v',e',by dsimp only at l;omega⟩
theorem mq {fs:List (Fact W)} {s:S W} (h:∀f∈fs,kept s f) (hs:∀f∈fs,∃u,s.sums f.1=some u):¬Neg fs:=by
 rintro ⟨a,c,x,n⟩
 have:∃u,s.sums a=some u:=by
  cases x with
  | one m=>exact hs _ m
  | cons m _=>exact hs _ m
 obtain ⟨u,e⟩:=this
 obtain ⟨v,e',l⟩:=mO h x e
 rw [e] at e'
 cases e'
 omega
end Wy
namespace Wy
variable {W:Type} [DecidableEq W]
def st0 (a:W→Option Int):S W:=⟨a,fun _=>none,fun _=>0,0⟩
theorem gO (fs:List (Fact W)) (a:W→Option Int):IB fs (st0 a):=⟨fun w i h=>(nomatch h),fun w=>⟨fun h=>absurd h (by show ¬1≤0;omega),fun ⟨i,h⟩=>(nomatch h)⟩,fun w=>Nat.le_refl _⟩
structure Src (fs:List (Fact W)) (a0:W→Option Int) (s:S W):Prop where
 way:∀w v,s.sums w=some v→∃a v0,a0 a=some v0∧((a=w∧v=v0)∨∃c,Way fs a w c∧v=v0+c)
 last:∀w v,s.sums w=some v→(∃v0,a0 w=some v0)∨∃i,s.last w=some i
theorem Bh (fs:List (Fact W)) (a0:W→Option Int):Src fs a0 (st0 a0):=⟨fun w v h=>⟨w,v,h,.inl ⟨rfl,rfl⟩⟩,fun w v h=>.inl ⟨v,h⟩⟩
theorem qY {fs:List (Fact W)} {a0:W→Option Int} {s:S W} {i:Nat} {f:Fact W} (hf:fs[i]?=some f) (h:Src fs a0 s):Src fs a0 (bP i f s):=by
 obtain ⟨p0,w0,m0⟩:=f
 have hm:=List.mem_of_getElem? hf
 unfold bP
 dsimp only
 cases hp:s.sums p0 with
 | none=>exact h
 | some u0=>
  dsimp only
  by_cases hl:less (u0+m0) (s.sums w0)=true
  ·rw [if_pos hl]
   refine ⟨fun w v hv=>?_,fun w v hv=>?_⟩
   ·dsimp only at hv
    by_cases e:w=w0
    ·subst e
     rw [aB] at hv
     cases hv
     obtain ⟨a,v0,ha,q⟩:=h.way p0 u0 hp
     refine ⟨a,v0,ha,.inr ?_⟩
     rcases q with ⟨rfl,rfl⟩ | ⟨c,x,rfl⟩
     ·exact ⟨m0,.one hm,rfl⟩
     ·exact ⟨c+m0,x.snoc hm,by omega⟩
    ·rw [aP e] at hv
     exact h.way w v hv
   ·dsimp only at hv ⊢
    by_cases e:w=w0
    ·subst e;exact .inr ⟨i,aB⟩
    ·rw [aP e] at hv ⊢
     exact h.last w v hv
  ·rw [if_neg hl];exact h
theorem mR {fs:List (Fact W)} {a0:W→Option Int}:∀(l:List (Fact W)) (i:Nat) (s:S W),fs.drop i=l→Src fs a0 s→Src fs a0 (turn l i s)
 | [],_,_,_,h=>h
 | f::r,i,s,e,h=>by
  have hf:fs[i]?=some f:=by have:=congrArg (fun l=>l[0]?) e;simpa using this
  have hr:fs.drop (i+1)=r:=by have:=congrArg List.tail e;simpa using this
  exact mR r (i+1) _ hr (qY hf h)
theorem i8 {fs:List (Fact W)} {a0:W→Option Int}:∀t,Src fs a0 (runs fs (st0 a0) t)
 | 0=>Bh fs a0
 | t+1=>mR fs 0 _ rfl (i8 t)
theorem du {fs:List (Fact W)} {a0:W→Option Int} {w:W} {v:Int} (h:a0 w=some v):∀t,∃v',(runs fs (st0 a0) t).sums w=some v'∧v'≤v
 | 0=>⟨v,h,Int.le_refl _⟩
 | t+1=>by
  obtain ⟨v1,e1,l1⟩:=du h t
  obtain ⟨v2,e2,l2⟩:=(pW (gO fs a0) t).sums w v1 e1
  exact ⟨v2,e2,Int.le_trans l2 l1⟩
theorem i3 {fs:List (Fact W)} {a0:W→Option Int} {t:Nat} (h:(runs fs (st0 a0) (t+1)).clock=(runs fs (st0 a0) t).clock):∀f∈fs,kept (runs fs (st0 a0) (t+1)) f:=fun f hf=>
 lQ (gO fs a0) t f hf (by rw [←h];exact (cu (gO fs a0) (t+1)).le _)
theorem rZ {fs:List (Fact W)} {one other:W} {t:Nat} {c:Int} (hne:other≠one) (hk:∀f∈fs,kept (runs fs (st0 (put (fun _=>none) one (some 0))) t) f):
  (∃v,(runs fs (st0 (put (fun _=>none) one (some 0))) t).sums other=some v∧v≤c)↔∃d,Way fs one other d∧d≤c:=by
 constructor
 ·rintro ⟨v,e,l⟩
  obtain ⟨a,v0,ha,q⟩:=(i8 t).way other v e
  have hao:a=one:=by
   refine Classical.byContradiction fun z=>?_
   rw [aP z] at ha
   cases ha
  subst hao
  rw [aB] at ha
  cases ha
  rcases q with ⟨e,_⟩ | ⟨d,x,rfl⟩
  ·exact absurd e.symm hne
  ·exact ⟨d,x,by omega⟩
 ·rintro ⟨d,x,l⟩
  obtain ⟨u,e1,l1⟩:=du (fs:=fs) (a0:=put (fun _=>none) one (some 0)) (w:=one) aB t
  obtain ⟨v,e2,l2⟩:=mO hk x e1
  exact ⟨v,e2,by omega⟩
theorem qG {fs:List (Fact W)} {one:W} {s:S W} (I:IB fs s) (hs:Src fs (put (fun _=>none) one (some 0)) s) {ws:List W} (hws:∀f∈fs,f.2.1∈ws) (hn:¬Neg fs) {w:W} {v:Int} (hw:s.sums w=some v) (hne:w≠one):
  ∃k,k < ws.length+1∧aO fs s (k+1) w=some one∧∀j,j≤k→∃x,aO fs s j w=some x∧x≠one:=by
 refine Classical.byContradiction fun no=>?_
 have key:∀k,k≤ws.length+1→∃x u,aO fs s k w=some x∧x≠one∧s.sums x=some u∧∀j,j≤k→∃y,aO fs s j w=some y∧y≠one:=by
  intro k
  induction k with
  | zero=>exact fun _=>⟨w,v,rfl,hne,hw,fun j hj=>⟨w,by rw [Nat.le_zero.mp hj];rfl,hne⟩⟩
  | succ k ih=>
   intro hk
   obtain ⟨x,u,e,ne,hu,hj⟩:=ih (by omega)
   have hl:∃i,s.last x=some i:=by
    rcases hs.last x u hu with ⟨v0,h0⟩ | h0
    ·rw [aP ne] at h0;cases h0
    ·exact h0
   obtain ⟨i,hi⟩:=hl
   obtain ⟨p,m,u',v',e1,e2,_⟩:=I.pred x i hi
   have hb:back fs s x=some p:=by unfold back;rw [hi];show (fs[i]?).map _=_;rw [e1];rfl
   have hbk:aO fs s (k+1) w=some p:=by unfold aO;rw [e];exact hb
   have hp:p≠one:=fun z=>no ⟨k,by omega,by rw [hbk,z],hj⟩
   refine ⟨p,u',hbk,hp,e2,fun j hjk=>?_⟩
   by_cases z:j≤k
   ·exact hj j z
   ·have:j=k+1:=by omega
    subst this
    exact ⟨p,hbk,hp⟩
 obtain ⟨x,r,_,_,hr⟩:=lR (fs:=fs) (s:=s) (w:=w) (ws:=ws) (L:=ws.length) (fun k hk=>by
  obtain ⟨x,u,e,ne,hu,_⟩:=key k (by omega)
  refine ⟨x,e,?_⟩
  rcases hs.last x u hu with ⟨v0,h0⟩ | ⟨i,hi⟩
  ·rw [aP ne] at h0;cases h0
  ·obtain ⟨p,m,u',v',e1,_⟩:=I.pred x i hi
   exact hws _ (List.mem_of_getElem? e1)) (Nat.le_refl _)
 exact hn (nj I hr)
end Wy
namespace Wy
variable {W:Type}
inductive WayN (fs:List (Fact W)):Nat→W→W→Int→Prop where
 | zero {a:W}:WayN fs 0 a a 0
 | snoc {n:Nat} {a b d:W} {c e:Int}:WayN fs n a b c→(b,d,e)∈fs→WayN fs (n+1) a d (c+e)
theorem WayN.add {fs:List (Fact W)} {n m:Nat} {a b d:W} {c e:Int} (x:WayN fs n a b c) (y:WayN fs m b d e):WayN fs (n+m) a d (c+e):=by
 induction y with
 | zero=>rw [Int.add_zero];exact x
 | snoc y h ih=>rw [←Int.add_assoc];exact .snoc (ih x) h
theorem WayN.way {fs:List (Fact W)} {n:Nat} {a b:W} {c:Int} (x:WayN fs n a b c):n≠0→Way fs a b c:=by
 induction x with
 | zero=>intro z;exact absurd rfl z
 | @snoc n a b d c e x h ih=>
  intro _
  cases n with
  | zero=>cases x;rw [Int.zero_add];exact .one h
  | succ n=>exact (ih (by omega)).snoc h
theorem Way.zo {fs:List (Fact W)} {a b:W} {c:Int} (x:Way fs a b c):∃n,WayN fs (n+1) a b c:=by
 induction x with
 | one h=>exact ⟨0,by have:=WayN.snoc (WayN.zero (fs:=fs)) h;rwa [Int.zero_add] at this⟩
 | @cons a b d c e h _ ih=>
  obtain ⟨n,y⟩:=ih
  have z:WayN fs 1 a b c:=by have:=WayN.snoc (WayN.zero (fs:=fs)) h;rwa [Int.zero_add] at this
  exact ⟨n+1,by have:=z.add y;rwa [show 1+(n+1)=n+1+1 by omega] at this⟩
theorem WayN.pts {fs:List (Fact W)} {n:Nat} {a b:W} {c:Int} (x:WayN fs n a b c):∃p:Nat→W,p 0=a∧p n=b∧(∀k,k < n→∃e,(p k,p (k+1),e)∈fs)∧∀i j,i≤j→j≤n→∃c1 c2 c3,WayN fs i a (p i) c1∧WayN fs (j-i) (p i) (p j) c2∧WayN fs (n-j) (p j) b c3∧c1+c2+c3=c:=by
 induction x with
 | @zero a=>exact ⟨fun _=>a,rfl,rfl,fun k h=>by omega,fun i j h1 h2=>⟨0,0,0,by rw [show i=0 by omega];exact .zero,by rw [show j-i=0 by omega];exact .zero,by rw [show 0-j=0 by omega];exact .zero,rfl⟩⟩
 | @snoc n a b d c e x h ih=>
  obtain ⟨p,p0,pn,st,q⟩:=ih
  obtain ⟨pd,hA,hB⟩:∃pd:Nat→W,(∀k,k≤n→pd k=p k)∧pd (n+1)=d:=⟨fun k=>if k≤n then p k else d,fun k hk=>if_pos hk,if_neg (by omega)⟩
  refine ⟨pd,by rw [hA 0 (Nat.zero_le _),p0],hB,fun k hk=>?_,fun i j h1 h2=>?_⟩
  ·by_cases z:k+1≤n
   ·obtain ⟨e',m⟩:=st k (by omega)
    exact ⟨e',by rw [hA k (by omega),hA _ z];exact m⟩
   ·have:k=n:=by omega
    subst this
    exact ⟨e,by rw [hA k (Nat.le_refl _),hB,pn];exact h⟩
  ·by_cases z:j≤n
   ·obtain ⟨c1,c2,c3,w1,w2,w3,ec⟩:=q i j h1 z
    refine ⟨c1,c2,c3+e,?_,?_,?_,by omega⟩
    ·rw [hA i (by omega)];exact w1
    ·rw [hA i (by omega),hA j z];exact w2
    ·rw [hA j z,show n+1-j=n-j+1 by omega];exact .snoc w3 h
   ·have hj:j=n+1:=by omega
    subst hj
    by_cases z2:i≤n
    ·obtain ⟨c1,c2,c3,w1,w2,w3,ec⟩:=q i n z2 (Nat.le_refl _)
     have e3:c3=0:=by rw [Nat.sub_self] at w3;cases w3;rfl
     refine ⟨c1,c2+e,0,?_,?_,?_,by omega⟩
     ·rw [hA i z2];exact w1
     ·rw [hA i z2,hB,show n+1-i=n-i+1 by omega]
      rw [pn] at w2
      exact .snoc w2 h
     ·rw [hB,Nat.sub_self];exact .zero
    ·have hi:i=n+1:=by omega
     subst hi
     refine ⟨c+e,0,0,?_,?_,?_,by omega⟩
     ·rw [hB];exact .snoc x h
     ·rw [Nat.sub_self];exact .zero
     ·rw [hB,Nat.sub_self];exact .zero
variable [DecidableEq W]
theorem WayN.short {fs:List (Fact W)} {ws:List W} (hws:∀f∈fs,f.2.1∈ws):∀(n:Nat) {a b:W} {c:Int},1≤n→WayN fs n a b c→(∃m c',1≤m∧m≤ws.length∧WayN fs m a b c'∧c'≤c)∨∃m w c',1≤m∧m≤ws.length∧WayN fs m w w c'∧c' < 0:=by
 intro n
 induction n using Nat.strongRecOn with
 | _ n ih=>
  intro a b c hn x
  by_cases hle:n≤ws.length
  ·exact .inl ⟨n,c,hn,hle,x,Int.le_refl _⟩
  ·obtain ⟨p,p0,pn,st,q⟩:=x.pts
   obtain ⟨i,j,hij,hj,e⟩:=xk (fun k=>p (k+1)) ws (n-1) (fun k hk=>by
    obtain ⟨e,m⟩:=st k (by omega)
    exact hws _ m) (by omega)
   obtain ⟨c1,c2,c3,w1,w2,w3,ec⟩:=q (i+1) (j+1) (by omega) (by omega)
   have e:p (i+1)=p (j+1):=e
   rw [←e] at w2 w3
   by_cases hc:c2 < 0
   ·rcases ih (j+1-(i+1)) (by omega) (by omega) w2 with ⟨m,c',h1,h2,y,l⟩ | h
    ·exact .inr ⟨m,_,c',h1,h2,y,by omega⟩
    ·exact .inr h
   ·rcases ih (i+1+(n-(j+1))) (by omega) (by omega) (w1.add w3) with ⟨m,c',h1,h2,y,l⟩ | h
    ·exact .inl ⟨m,c',h1,h2,y,by omega⟩
    ·exact .inr h
end Wy
namespace Sm
open PySem L2
theorem iX:∀(is:List (Key×Int)) (k j:Key) (n:Int),bJ (dg is k n) j=if j=k then some n else bJ is j
 | [],k,j,n=>by
  show (if k=j then some n else none)=if j=k then some n else none
  by_cases z:k=j
  ·rw [if_pos z,if_pos z.symm]
  ·rw [if_neg z,if_neg (Ne.symm z)]
 | (a,i)::r,k,j,n=>by
  unfold dg
  by_cases z:a=k
  ·subst z
   rw [if_pos rfl]
   show (if a=j then some n else bJ r j)=if j=a then some n else (if a=j then some i else bJ r j)
   by_cases y:a=j
   ·rw [if_pos y,if_pos y.symm]
   ·rw [if_neg y,if_neg (Ne.symm y),if_neg y]
  ·rw [if_neg z]
   show (if a=j then some i else bJ (dg r k n) j)=if j=k then some n else (if a=j then some i else bJ r j)
   rw [iX r k j n]
   by_cases y:a=j
   ·rw [if_pos y,if_pos y,if_neg (fun e=>z (y.trans e))]
   ·rw [if_neg y,if_neg y]
theorem fi:∀(is:List (Key×Int)) (k:Key),bc (dI is) k=(bJ is k).map D.int
 | [],k=>rfl
 | (j,i)::r,k=>by
  show bc ((j,D.int i)::dI r) k=_
  unfold bJ
  by_cases z:j=k
  ·rw [if_pos z];simp [bc,z]
  ·rw [if_neg z]
   have:bc ((j,D.int i)::dI r) k=bc (dI r) k:=by simp only [bc,List.find?_cons,z,decide_false]
   rw [this];exact fi r k
theorem vJ (is:List (Key×Int)) (k:Key) (n:Int) (nd:(is.map (·.1)).Nodup):putD (dI is) k (.int n)=dI (dg is k n):=by
 unfold putD
 by_cases h:k∈is.map (·.1)
 ·rw [if_pos]
  ·induction is with
   | nil=>cases h
   | cons p r ih=>
    obtain ⟨j,i⟩:=p
    rw [List.map_cons,List.nodup_cons] at nd
    unfold dg
    by_cases z:j=k
    ·subst z
     rw [if_pos rfl]
     show (if j=j then (j,D.int n) else (j,D.int i))::(dI r).map _=(j,D.int n)::dI r
     rw [if_pos rfl]
     congr 1
     have:∀p∈dI r,(if p.1=j then (p.1,D.int n) else p)=p:=fun p hp=>by
      obtain ⟨q,hq,rfl⟩:=List.mem_map.mp hp
      rw [if_neg fun z=>nd.1 (List.mem_map.mpr ⟨q,hq,z⟩)]
     rw [List.map_congr_left this,List.map_id']
    ·rw [if_neg z]
     show (if j=k then (j,D.int n) else (j,D.int i))::(dI r).map _=(j,D.int i)::dI (dg r k n)
     rw [if_neg z]
     congr 1
     exact ih nd.2 ((List.mem_cons.mp h).resolve_left fun e=>z e.symm)
  ·obtain ⟨p,hp,e⟩:=List.mem_map.mp h
   exact List.any_eq_true.mpr ⟨(p.1,D.int p.2),List.mem_map.mpr ⟨p,hp,rfl⟩,decide_eq_true e⟩
 ·rw [if_neg,jf is k n h]
  ·show dI is++[(k,D.int n)]=_
   unfold dI
   rw [List.map_append]
   rfl
  ·intro z
   obtain ⟨p,hp,e⟩:=List.any_eq_true.mp z
   obtain ⟨q,hq,rfl⟩:=List.mem_map.mp hp
   exact h (List.mem_map.mpr ⟨q,hq,of_decide_eq_true e⟩)
def o8:Option Int→Option Int→Option Int
 | none,o=>o
 | some e,none=>some e
 | some e,some g=>some (if e < g then e else g)
theorem kA:∀{is:List (Key×Int)} {k:Key},k∉is.map (·.1)→bJ is k=none
 | [],_,_=>rfl
 | (j,i)::r,k,h=>by
  unfold bJ
  rw [if_neg fun z=>h (by rw [z];simp)]
  exact kA fun z=>h (by rw [List.map_cons];exact List.mem_cons_of_mem _ z)
theorem iw:∀(is js:List (Key×Int)) (k:Key),(is.map (·.1)).Nodup→bJ (aN is js) k=o8 (bJ is k) (bJ js k)
 | [],js,k,_=>rfl
 | (j,i)::r,js,k,nd=>by
  rw [List.map_cons,List.nodup_cons] at nd
  show bJ (aN r (dg js j (fS js j i))) k=_
  rw [iw r _ k nd.2,iX]
  show _=o8 (if j=k then some i else bJ r k) (bJ js k)
  by_cases z:k=j
  ·subst z
   rw [if_pos rfl,if_pos rfl,kA nd.1]
   unfold fS
   show some _=o8 (some i) (bJ js k)
   cases bJ js k <;> rfl
  ·rw [if_neg z,if_neg (Ne.symm z)]
theorem jn:∀(is js:List (Key×Int)),(js.map (·.1)).Nodup→((aN is js).map (·.1)).Nodup
 | [],_,h=>h
 | (j,i)::r,js,h=>jn r _ (l3 h)
structure DI (ws:List Str) (is:List (Key×Int)) (f:Str→Option Int):Prop where
 val:∀w,bJ is (.inr w)=f w
 nd:(is.map (·.1)).Nodup
 ks:∀k∈is.map (·.1),∃w,k=.inr w∧w∈ws
theorem DI.nil (ws:List Str):DI ws [] fun _=>none:=⟨fun _=>rfl,List.nodup_nil,fun k hk=>(nomatch hk)⟩
theorem DI.put {ws:List Str} {is:List (Key×Int)} {f:Str→Option Int} (R:DI ws is f) {w:Str} (hw:w∈ws) (n:Int):DI ws (dg is (.inr w) n) (Wy.put f w (some n)):=by
 refine ⟨fun x=>?_,l3 R.nd,fun k hk=>?_⟩
 ·rw [iX,R.val]
  unfold Wy.put
  by_cases e:x=w
  ·subst e;rw [if_pos rfl,if_pos rfl]
  ·rw [if_neg e,if_neg fun z=>e (Sum.inr.inj z)]
 ·rcases dw is (.inr w) n with ⟨_,e⟩ | ⟨_,e⟩
  ·rw [e] at hk;exact R.ks k hk
  ·rw [e] at hk
   rcases List.mem_append.mp hk with h | h
   ·exact R.ks k h
   ·exact ⟨w,List.mem_singleton.mp h,hw⟩
theorem jo {ws:List Str}:∀(is js:List (Key×Int)),(∀k∈is.map (·.1),∃w,k=.inr w∧w∈ws)→(∀k∈js.map (·.1),∃w,k=.inr w∧w∈ws)→∀k∈(aN is js).map (·.1),∃w,k=.inr w∧w∈ws
 | [],_,_,h=>h
 | (j,i)::r,js,h1,h2=>jo r _ (fun k hk=>h1 k (by rw [List.map_cons];exact List.mem_cons_of_mem _ hk)) fun k hk=>by
  rcases dw js j (fS js j i) with ⟨_,e⟩ | ⟨_,e⟩
  ·rw [e] at hk;exact h2 k hk
  ·rw [e] at hk
   rcases List.mem_append.mp hk with h | h
   ·exact h2 k h
   ·rw [List.mem_singleton.mp h];exact h1 j (by simp)
theorem DI.min {ws:List Str} {is js:List (Key×Int)} {f g:Str→Option Int} (R:DI ws is f) (Q:DI ws js g):DI ws (aN is js) fun w=>o8 (f w) (g w):=
 ⟨fun w=>by rw [iw _ _ _ R.nd,R.val,Q.val],jn _ _ Q.nd,jo _ _ R.ks Q.ks⟩
theorem DI.len {ws:List Str} {is:List (Key×Int)} {f:Str→Option Int} (R:DI ws is f):is.length≤ws.length:=by
 have:=Wy.dy (is.map (·.1)) (ws.map Sum.inr) R.nd fun x hx=>by
  obtain ⟨w,rfl,m⟩:=R.ks x hx
  exact List.mem_map.mpr ⟨w,m,rfl⟩
 rwa [List.length_map,List.length_map] at this
def cC (P:Int→Prop):Option Int→Prop
 | none=>∀c,¬P c
 | some d=>P d∧∀c,P c→d≤c
theorem cC.congr {P Q:Int→Prop} {o:Option Int} (h:cC P o) (e:∀c,P c↔Q c):cC Q o:=by
 cases o with
 | none=>exact fun c q=>h c ((e c).mpr q)
 | some d=>exact ⟨(e d).mp h.1,fun c q=>h.2 c ((e c).mpr q)⟩
theorem cC.or {P Q:Int→Prop} {o u:Option Int} (h:cC P o) (k:cC Q u):cC (fun c=>P c∨Q c) (o8 o u):=by
 cases o with
 | none=>exact k.congr fun c=>⟨.inr,fun z=>z.resolve_left (h c)⟩
 | some d=>cases u with
  | none=>exact ⟨.inl h.1,fun c z=>z.elim (h.2 c) fun q=>absurd q (k c)⟩
  | some g=>
   show cC _ (some _)
   by_cases z:d < g
   ·rw [if_pos z];exact ⟨.inl h.1,fun c q=>q.elim (h.2 c) fun q=>by have:=k.2 c q;omega⟩
   ·rw [if_neg z];exact ⟨.inr k.1,fun c q=>q.elim (fun q=>by have:=h.2 c q;omega) (k.2 c)⟩
theorem z3 {δ:DS} {h:MH} {a b:EM} {Q:D×MH→Prop} (r:Rn (a δ h) fun p=>∃c,oB p.1 p.2=some c∧(c=true→Q p)∧(c=false→Rn (b δ p.2) Q)):Rn (wI a b δ h) Q:=az (r.imp fun p ⟨c,e,q1,q2⟩=>by
 rw [e]
 show Rn (if c=true then some p else b δ p.2) Q
 cases c with
 | true=>rw [if_pos rfl];exact ⟨_,rfl,q1 rfl⟩
 | false=>rw [if_neg (by simp)];exact q2 rfl)
theorem q0 {δ:DS} {h:MH} {e b w n m:Nat} {is js:List (Key×Int)} {Q:SQ} (he:δ[e]?=some (some (.ob n))) (hb:δ[b]?=some (some (.ob m))) (hn:h[n]?=some (.dct (dI is))) (hm:h[m]?=some (.dct (dI js))) (hne:n≠m) (hl:is.length+js.length < 1000000)
  (q:Q (.nx,δ.set w none,h.set m (.dct (dI (aN is js))))):Rn (eU e b w δ h) Q:=by
 refine ⟨_,?_,q⟩
 unfold eU
 rw [he,hb]
 dsimp only
 rw [hn,hm]
 dsimp only
 rw [tX,tX]
 show (if _ then _ else _)=_
 rw [if_pos ⟨hne,by rw [show sizeLine=16777216 from rfl];omega⟩]
theorem AD {d:D} {h:MH} {is:List (Key×Int)} {y:Str} (hd:bp d h=some (dI is)):nR d [.str y] h=some (((bJ is (.inr y)).map D.int).getD .non,h):=by
 unfold nR
 rw [hd]
 show some ((bc (dI is) (.inr y)).getD .non,h)=_
 rw [fi]
theorem AB {d:D} {h:MH} {is:List (Key×Int)} {y:Str} {z:Int} (hd:bp d h=some (dI is)):nR d [.str y,.int z] h=some (.int ((bJ is (.inr y)).getD z),h):=by
 unfold nR
 rw [hd]
 show some ((bc (dI is) (.inr y)).getD (.int z),h)=_
 rw [fi]
 cases bJ is (.inr y) <;> rfl
theorem nW {d:D} {h:MH} {kvs:List (Key×D)} (hd:bp d h=some kvs):iz d h=true:=by unfold iz;rw [hd];rfl
end Sm
namespace Wy
variable {W:Type}
theorem Way.BV {fs:List (Fact W)} {one other:W} {c:Int} (hne:one≠other) (hc:∀d,Way fs one other d→c+1≤d) {a b:W} {d:Int} (x:Way (fs++[(other,one,-c-1)]) a b d):
  (∃d',Way fs a b d'∧d'≤d)∨∃d1 d2,((a=other∧d1=0)∨Way fs a other d1)∧((one=b∧d2=0)∨Way fs one b d2)∧d1+(-c-1)+d2≤d:=by
 induction x with
 | one m=>
  rcases List.mem_append.mp m with m | m
  ·exact .inl ⟨_,.one m,Int.le_refl _⟩
  ·have:=List.mem_singleton.mp m
   cases this
   exact .inr ⟨0,0,.inl ⟨rfl,rfl⟩,.inl ⟨rfl,rfl⟩,by omega⟩
 | @cons a p b m0 e mm _ ih=>
  rcases List.mem_append.mp mm with m | m
  ·rcases ih with ⟨d',w,l⟩ | ⟨d1,d2,h1,h2,l⟩
   ·exact .inl ⟨_,.cons m w,by omega⟩
   ·refine .inr ⟨m0+d1,d2,.inr ?_,h2,by omega⟩
    rcases h1 with ⟨rfl,rfl⟩ | h1
    ·rw [Int.add_zero];exact Way.one m
    ·exact Way.cons m h1
  ·have:=List.mem_singleton.mp m
   cases this
   rcases ih with ⟨d',w,l⟩ | ⟨d1,d2,h1,h2,l⟩
   ·exact .inr ⟨0,d',.inl ⟨rfl,rfl⟩,.inr w,by omega⟩
   ·have:c+1≤d1:=by
     rcases h1 with ⟨e,_⟩ | h1
     ·exact absurd e hne
     ·exact hc _ h1
    exact .inr ⟨0,d2,.inl ⟨rfl,rfl⟩,h2,by omega⟩
theorem l9 {fs:List (Fact W)} {one other:W} {c:Int} (hne:one≠other) (h:¬Fol fs (one,other,c)):¬Neg (fs++[(other,one,-c-1)]):=by
 have hn:¬Neg fs:=fun z=>h (.inl z)
 have hc:∀d,Way fs one other d→c+1≤d:=fun d w=>by
  refine Int.not_lt.mp fun z=>h (.inr ⟨d,w,?_⟩)
  show d≤c
  omega
 rintro ⟨a,d,x,l⟩
 rcases x.BV hne hc with ⟨d',w,l'⟩ | ⟨d1,d2,h1,h2,l'⟩
 ·exact hn ⟨a,d',w,by omega⟩
 ·have:c+1≤d2+d1:=by
   rcases h1 with ⟨rfl,rfl⟩ | h1
   ·rcases h2 with ⟨e,_⟩ | h2
    ·exact absurd e hne
    ·have:=hc _ h2;omega
   ·rcases h2 with ⟨rfl,rfl⟩ | h2
    ·have:=hc _ h1;omega
    ·exact hc _ (h2.trans h1)
  omega
end Wy
namespace Wy
variable {W:Type} [DecidableEq W]
theorem pJ {fs:List (Fact W)} {g:W→Int} (h:∀f∈fs,g f.1-g f.2.1≤f.2.2) {a b:W} {c:Int} (x:Way fs a b c):g a-g b≤c:=by
 induction x with
 | one m=>exact h _ m
 | cons m _ ih=>have:=h _ m;dsimp only at this;omega
theorem wC {fs:List (Fact W)} {f:Fact W} {g:W→Int} (x:Fol fs f) (h:∀f∈fs,g f.1-g f.2.1≤f.2.2):g f.1-g f.2.1≤f.2.2:=by
 rcases x with ⟨a,c,w,n⟩ | ⟨d,w,l⟩
 ·have:=pJ h w;omega
 ·have:=pJ h w;omega
theorem o6 {gs:List (Fact W)} (hn:¬Neg gs):∃f:W→Int,∀g∈gs,f g.1-f g.2.1≤g.2.2:=by
 have I:=gO gs (fun _:W=>some 0)
 have hQ:=lQ I (gs.map (·.2.1)).length
 have hs:∀w,∃v,(runs gs (st0 fun _:W=>some 0) ((gs.map (·.2.1)).length+1)).sums w=some v:=fun w=>by
  obtain ⟨v,e,_⟩:=du (fs:=gs) (a0:=fun _:W=>some 0) (w:=w) rfl ((gs.map (·.2.1)).length+1)
  exact ⟨v,e⟩
 have hst:∀w,(runs gs (st0 fun _:W=>some 0) ((gs.map (·.2.1)).length+1)).stamp w≤(runs gs (st0 fun _:W=>some 0) (gs.map (·.2.1)).length).clock:=fun w=>by
  refine Nat.le_of_not_lt fun z=>hn (jv I (ws:=gs.map (·.2.1)) (fun f hf=>List.mem_map.mpr ⟨f,hf,rfl⟩) z)
 refine ⟨fun w=>-((runs gs (st0 fun _:W=>some 0) ((gs.map (·.2.1)).length+1)).sums w).getD 0,fun g hg=>?_⟩
 obtain ⟨u,hu⟩:=hs g.1
 obtain ⟨v,hv,l⟩:=hQ g hg (hst g.1) u hu
 dsimp only
 rw [hu,hv]
 simp only [Option.getD_some]
 omega
theorem pS (f:W→Int):∀(L:List W),L≠[]→L.Nodup→L.Pairwise (fun x y=>f y≤f x)→∃(g:W→Int) (lo:Int),(∀x∈L,lo≤g x∧g x≤lo+3*(L.length-1:Nat))∧∀x∈L,∀y∈L,∀c:Int,-3≤c→c≤3→f x-f y≤c→g x-g y≤c
 | [],h,_,_=>absurd rfl h
 | [m],_,_,_=>⟨fun _=>0,0,fun x _=>by simp,fun x hx y hy c _ _ h=>by
   rw [List.mem_singleton.mp hx,List.mem_singleton.mp hy] at h;dsimp only;omega⟩
 | m::p::r,_,nd,pw=>by
  rw [List.nodup_cons] at nd
  rw [List.pairwise_cons] at pw
  obtain ⟨g,lo,h1,h2⟩:=pS f (p::r) (by simp) nd.2 pw.2
  have hmp:f p≤f m:=pw.1 p List.mem_cons_self
  have hpx:∀x∈p::r,f x≤f p:=fun x hx=>by
   rcases List.mem_cons.mp hx with rfl | hx
   ·exact Int.le_refl _
   ·exact (List.pairwise_cons.mp pw.2).1 x hx
  have hpm:=List.mem_cons_self (a:=p) (l:=r)
  have hb:=h1 p hpm
  refine ⟨fun x=>if x=m then g p+min (f m-f p) 3 else g x,lo,fun x hx=>?_,fun x hx y hy c c0 c1 h=>?_⟩
  ·dsimp only
   rw [List.length_cons]
   rw [List.length_cons] at hb
   by_cases z:x=m
   ·rw [if_pos z];rw [List.length_cons] at h1 ⊢;omega
   ·rw [if_neg z]
    have:=h1 x ((List.mem_cons.mp hx).resolve_left z)
    rw [List.length_cons] at this ⊢;omega
  ·dsimp only
   by_cases zx:x=m
   ·rw [if_pos zx]
    rw [zx] at h
    by_cases zy:y=m
    ·rw [if_pos zy];rw [zy] at h;omega
    ·rw [if_neg zy]
     have hy':=(List.mem_cons.mp hy).resolve_left zy
     have h3:=hpx y hy'
     have:=h2 p hpm y hy' (c-(f m-f p)) (by omega) (by omega) (by omega)
     omega
   ·rw [if_neg zx]
    have hx':=(List.mem_cons.mp hx).resolve_left zx
    have h3:=hpx x hx'
    have h4:=h2 x hx' p hpm 0 (by omega) (by omega) (by omega)
    by_cases zy:y=m
    ·rw [if_pos zy]
     rw [zy] at h
     by_cases z:c+(f m-f p) < 0
     ·have:=h2 x hx' p hpm (c+(f m-f p)) (by omega) (by omega) (by omega)
      omega
     ·omega
    ·rw [if_neg zy]
     exact h2 x hx' y ((List.mem_cons.mp hy).resolve_left zy) c c0 c1 h
theorem jX {fs:List (Fact W)} {a b:W} {c:Int} {o:W} {ws:List W} (nd:(o::ws).Nodup) (hl:ws.length≤3) (hf:∀f∈fs,f.1∈o::ws∧f.2.1∈o::ws∧-2≤f.2.2∧f.2.2≤2) (ha:a∈o::ws) (hb:b∈o::ws) (hc:-2≤c∧c≤2) (hab:a≠b) (h:¬Fol fs (a,b,c)):
  ∃g:W→Int,g o=0∧(∀w∈ws,-9≤g w∧g w≤9)∧(∀f∈fs,g f.1-g f.2.1≤f.2.2)∧¬g a-g b≤c:=by
 obtain ⟨f,hfn⟩:=o6 (l9 hab h)
 have hperm:((o::ws).mergeSort fun x y=>decide (f y≤f x)).Perm (o::ws):=List.mergeSort_perm _ _
 have hpw:=List.pairwise_mergeSort (le:=fun x y:W=>decide (f y≤f x)) (fun a b c h1 h2=>by simp at h1 h2 ⊢;omega) (fun a b=>by simp;omega) (o::ws)
 obtain ⟨g,lo,h1,h2⟩:=pS f ((o::ws).mergeSort fun x y=>decide (f y≤f x)) (fun z=>by have:=hperm.length_eq;rw [z] at this;simp at this) (hperm.nodup_iff.mpr nd) (hpw.imp fun h=>by simpa using h)
 have hm:∀{x},x∈o::ws→x∈(o::ws).mergeSort fun x y=>decide (f y≤f x):=fun hx=>hperm.mem_iff.mpr hx
 have hlen:=hperm.length_eq
 refine ⟨fun w=>g w-g o,by dsimp only;omega,fun w hw=>?_,fun x hx=>?_,?_⟩
 ·have e1:=h1 w (hm (List.mem_cons_of_mem _ hw))
  have e2:=h1 o (hm List.mem_cons_self)
  rw [hlen,List.length_cons] at e1 e2
  dsimp only
  omega
 ·obtain ⟨m1,m2,c1,c2⟩:=hf x hx
  have:=h2 _ (hm m1) _ (hm m2) x.2.2 (by omega) (by omega) (hfn x (List.mem_append_left _ hx))
  dsimp only
  omega
 ·have:=h2 _ (hm hb) _ (hm ha) (-c-1) (by omega) (by omega) (hfn (b,a,-c-1) (by simp))
  dsimp only
  omega
end Wy
namespace Mi
open PySem L2 Sm PySem.Spec PyProof.Rows
def top (i:Nat):Stmt:=PySem.Challenge.pw_neverstuck_k10_what_follows.main.body.getD i (.Pass ⟨0,0,0,0⟩)
structure Bs (P:Program) (w:World) (K:PySem.W.Frag) (mg:Str→Option Value):Prop where
 abs_:mg "abs"=none
 all_:mg "all"=none
 any_:mg "any"=none
 bool_:mg "bool"=none
 dict_:mg "dict"=none
 enumerate_:mg "enumerate"=none
 isinstance_:mg "isinstance"=none
 len_:mg "len"=none
 list_:mg "list"=none
 min_:mg "min"=none
 range_:mg "range"=none
 sorted_:mg "sorted"=none
 tuple_:mg "tuple"=none
abbrev dP:Stmt:=top 8
theorem j0:FnScope ["_law_script"] ["_law_script"] (ay dP):=⟨rfl,rfl,rfl,by decide+kernel,rfl,by decide+kernel,by decide+kernel⟩
def bO:Fn:=mkF 1
  (cB (eOb (af (eK (.int 0)) (af (eOb (uY (af (uA (ae 0) pNo (pAt (eK (.int 63)))) av))) (af (eK (.int 0)) av)))))
abbrev eT:Stmt:=top 9
theorem bt:FnScope ["_law_state","_law_cells","_law_tour","_law_cell","_law_mixed"] ["_law_state"] (ay eT):=⟨rfl,rfl,rfl,by decide+kernel,rfl,by decide+kernel,by decide+kernel⟩
def cE:Fn:=mkF 5
  (aF (aW 1 (eOp fIx (ae 0) (eK (.int 1))))
  (aF (aW 2 (eOp fIx (ae 0) (eK (.int 2))))
  (aF (eW (eOp aU (ae 2) (eK (.int 1))) (fz (ae 0) (eK (.int 2))))
  (aF (aW 3 (eK (.int 0)))
  (aF (sIf (bq (eOp gz (ae 1) (eLv av))) (aW 3 (eOp fIx (ae 1) (eOp jF (ae 2) (eFn fb (af (ae 1) av))))) gj)
  (sIf (mW (bq (eOp fLt (ae 2) (eFn fb (af (ae 1) av)))) (bq (eOp fGe (eFn y4 (af (ae 3) av)) (eOp uq (eK (.int 10)) (eK (.int 18)))))) (eW (eFn y4 (af (ae 3) av)) (fz (ae 0) (eK (.int 0)))) (aF (aW 4 (eOp jF (eOp eZ (eOp aU (eOp aU (eOp jF (ae 3) (eK (.int 2305843009213693951))) (eOp eZ (eOp eZ (eK (.int 7919)) (ae 2)) (ae 2))) (eK (.int 11))) (eK (.int 48271))) (eK (.int 2305843009213693951))))
  (aF (aW 4 (eOp jF (eOp eZ (ae 4) (ae 4)) (eK (.int 2305843009213693921))))
  (eW (eOp aU (eOp jF (eOp aU (eOp aU (eOp eZ (ae 4) (eK (.int 69621))) (ae 2)) (eK (.int 104729))) (eK (.int 2305843009213693951))) (eOp uq (eK (.int 10)) (eK (.int 9)))) (fz (ae 0) (eK (.int 0))))))))))))
abbrev eS:Stmt:=top 10
theorem gi:FnScope ["_law_state","_law_many","_law_found"] ["_law_state","_law_many"] (ay eS):=⟨rfl,rfl,rfl,by decide+kernel,rfl,by decide+kernel,by decide+kernel⟩
def aI:Fn:=mkF 3
  (aF (sIf (bq (eOp fLt (eOp fIx (ae 0) (eK (.int 0))) (ae 1))) (gk (eFn cE (af (ae 0) av))) gj)
  (aF (aW 2 (eOp jF (eOp fIx (ae 0) (eK (.int 0))) (ae 1)))
  (aF (eW (eOp uv (eOp fIx (ae 0) (eK (.int 0))) (ae 1)) (fz (ae 0) (eK (.int 0))))
  (cB (ae 2)))))
abbrev gU:Stmt:=top 11
theorem oK:FnScope ["_law_state","_law_some"] ["_law_state","_law_some"] (ay gU):=⟨rfl,rfl,rfl,by decide+kernel,rfl,by decide+kernel,by decide+kernel⟩
def aY:Fn:=mkF 2
  (cB (eOp fIx (ae 1) (eFn aI (af (ae 0) (af (eFn fb (af (ae 1) av)) av)))))
abbrev dJ:Stmt:=top 12
theorem aX:FnScope ["_law_state","_law_many","_law_letters","_law_stem","_law_k","_law_at","_law_first","_law_stride"] ["_law_state","_law_many"] (ay dJ):=⟨rfl,rfl,rfl,by decide+kernel,rfl,by decide+kernel,by decide+kernel⟩
def bN:Fn:=mkF 8
  (aF (aW 2 (eK (.str "abcdefghijklmnopqrstuvwxyz")))
  (aF (aW 3 (eK (.str "")))
  (aF (eV (iH (af (eFn aY (af (ae 0) (af (eK (.lv [.int 0,.int 1,.int 1,.int 2,.int 3,.int 6])) av))) av)) (gN 4) (aW 3 (eOp aU (ae 3) (eOp fIx (ae 2) (eFn aI (af (ae 0) (af (eK (.int 26)) av)))))))
  (aF (aW 5 (eFn aI (af (ae 0) (af (eOp aU (eFn fb (af (ae 3) av)) (eK (.int 1))) av))))
  (aF (aW 6 (eFn aI (af (ae 0) (af (eK (.int 26)) av))))
  (aF (aW 7 (eFn aY (af (ae 0) (af (eK (.lv [.int 1,.int 3,.int 5,.int 7,.int 9,.int 11])) av))))
  (cB (eLv (fE [none,some 5,some 6,some 2,some 3,some 7] (iH (af (ae 1) av)) (gN 0) fF (eOp aU (eOp aU (uA (ae 4) pNo (pAt (ae 1))) (eOp fIx (ae 3) (eOp jF (eOp aU (ae 2) (eOp eZ (ae 5) (ae 0))) (eK (.int 26))))) (uA (ae 4) (pAt (ae 1)) pNo)))))))))))
abbrev dO:Stmt:=top 13
theorem bS:FnScope ["_law_state","_law_words_here","_law_many","_law_far","_law_found","_law_k","_law_x","_law_y"] ["_law_state","_law_words_here","_law_many","_law_far"] (ay dO):=⟨rfl,rfl,rfl,by decide+kernel,rfl,by decide+kernel,by decide+kernel⟩
def ba:Fn:=mkL 8
  (aF (aW 4 (eOb av))
  (aF (eV (iH (af (ae 2) av)) (gN 5) (aF (aW 6 (eFn aY (af (ae 0) (af (eOp aU (ae 1) (eLv (af (eK (.str "")) av))) av))))
  (aF (aW 7 (eFn aY (af (ae 0) (af (eLv (fE [none,some 6] (eD (eOp aU (ae 1) (eLv (af (eK (.str "")) av)))) (gN 0) (bq (eOp gz (ae 0) (ae 1))) (ae 0))) av))))
  (gk (eM cP cv (ae 4) (af (eFn my (af (ae 6) (af (ae 7) (af (eOp wD (eFn aI (af (ae 0) (af (eOp aU (eOp eZ (eK (.int 2)) (ae 3)) (eK (.int 1))) av))) (ae 3)) av)))) av))))))
  (cB (eFn pk (af (ae 4) av)))))
abbrev fH:Stmt:=top 1
theorem ni:FnScope ["facts"] ["facts"] (ay fH):=⟨rfl,rfl,rfl,by decide+kernel,rfl,by decide+kernel,by decide+kernel⟩
def bx:Fn:=mkF 1
  (cB (qq [none,none,none,none] (eD (ae 0)) (gT 3 (aD (gN 0) (aD (gN 1) (aD (gN 2) cY)))) fF (nQ (eD (eFn my (af (ae 0) (af (ae 1) av)))) (gN 3) fF (mS (ae 3)))))
abbrev i7:Stmt:=top 2
theorem bj:FnScope ["facts","start","sums","last","late","turn","number","one","other","more"] ["facts","start"] (ay i7):=⟨rfl,rfl,rfl,by decide+kernel,rfl,by decide+kernel,by decide+kernel⟩
def cD:Fn:=mkF 10
  (aF (aW 2 (eFn uw (af (ae 1) av)))
  (aF (aW 3 eDo)
  (aF (aW 4 (eK .non))
  (aF (eV (iH (af (eOp aU (eFn fb (af (eFn bx (af (ae 0) av)) av)) (eK (.int 1))) av)) (gN 5) (aF (aW 4 (eK .non))
  (aF (eV (uc (af (ae 0) av)) (gT 2 (aD (gN 6) (aD (gT 3 (aD (gN 7) (aD (gN 8) (aD (gN 9) cY)))) cY))) (sIf (mW (bq (eOp fIn (ae 7) (ae 2))) (tOr (bq (eOp di (ae 8) (ae 2))) (bq (eOp fLt (eOp aU (eOp fIx (ae 2) (ae 7)) (ae 9)) (eOp fIx (ae 2) (ae 8)))))) (aF (eW (eOp aU (eOp fIx (ae 2) (ae 7)) (ae 9)) (fz (ae 2) (ae 8)))
  (aF (eW (ae 6) (fz (ae 3) (ae 8)))
  (aW 4 (ae 8)))) gj))
  (sIf (bq (eOp y1 (ae 4) (eK .non))) xQ gj))))
  (cB (eFn my (af (ae 2) (af (ae 3) (af (ae 4) av)))))))))
abbrev fI:Stmt:=top 3
theorem ip:FnScope ["facts","last","word","first","some"] ["facts","last","word","first"] (ay fI):=⟨rfl,rfl,rfl,by decide+kernel,rfl,by decide+kernel,by decide+kernel⟩
def bH:Fn:=mkL 5
  (aF (aW 4 (eOb (af (eOp fIx (ae 1) (ae 2)) av)))
  (aF (cM (bq (eOp gz (eOp fIx (eOp fIx (ae 0) (eOp fIx (ae 4) (eUn lD (eK (.int 1))))) (eK (.int 0))) (ae 3))) (gk (eM cP cv (ae 4) (af (eOp fIx (ae 1) (eOp fIx (eOp fIx (ae 0) (eOp fIx (ae 4) (eUn lD (eK (.int 1))))) (eK (.int 0)))) av))) 100)
  (cB (eFn pk (af (uB (ae 4) (eUn lD (eK (.int 1)))) av)))))
abbrev fK:Stmt:=top 5
theorem bF:FnScope ["facts","fact","one","other","more","sums","last","late"] ["facts","fact"] (ay fK):=⟨rfl,rfl,rfl,by decide+kernel,rfl,by decide+kernel,by decide+kernel⟩
def cq:Fn:=mkL 8
  (aF (eW (ae 1) (gT 3 (aD (gN 2) (aD (gN 3) (aD (gN 4) cY)))))
  (aF (eW (eFn cD (af (ae 0) (af (qr (qe (ae 2) (eK (.int 0)) wb)) av))) (gT 3 (aD (gN 5) (aD (gN 6) (aD (gN 7) cY)))))
  (aF (sIf (tOr (bq (eOp di (ae 3) (ae 5))) (bq (eOp fGt (eOp fIx (ae 5) (ae 3)) (ae 4)))) (cB (eK .non)) gj)
  (cB (eFn bH (af (ae 0) (af (ae 6) (af (ae 3) (af (ae 2) av)))))))))
abbrev fJ:Stmt:=top 4
theorem bE:FnScope ["facts","sums","last","late","word","step"] ["facts"] (ay fJ):=⟨rfl,rfl,rfl,by decide+kernel,rfl,by decide+kernel,by decide+kernel⟩
def cp:Fn:=mkL 6
  (aF (eW (eFn cD (af (ae 0) (af (eAc [none] (eD (eFn bx (af (ae 0) av))) (gN 0) fF (mD (ae 0) (eK (.int 0))) [] .dv) av))) (gT 3 (aD (gN 1) (aD (gN 2) (aD (gN 3) cY)))))
  (aF (sIf (bq (eOp y1 (ae 3) (eK .non))) (cB (eK .non)) gj)
  (aF (aW 4 (ae 3))
  (aF (eV (iH (af (eFn fb (af (ae 2) av)) av)) (gN 5) (aW 4 (eOp fIx (eOp fIx (ae 0) (eOp fIx (ae 2) (ae 4))) (eK (.int 0)))))
  (cB (eFn bH (af (ae 0) (af (ae 2) (af (ae 4) (af (ae 4) av))))))))))
abbrev gS:Stmt:=top 6
theorem oJ:FnScope ["facts","fact"] ["facts","fact"] (ay gS):=⟨rfl,rfl,rfl,by decide+kernel,rfl,by decide+kernel,by decide+kernel⟩
def b0:Fn:=mkF 2
  (cB (eOr (eOp qm (eFn cp (af (ae 0) av)) (eK .non)) (eOp qm (eFn cq (af (ae 0) (af (ae 1) av))) (eK .non))))
abbrev bV:Stmt:=top 18
theorem aH:FnScope ["_law_words_here","_law_far","_law_found","_law_word","_law_more","_law_numbers","_law_number_here"] ["_law_words_here","_law_far"] (ay bV):=⟨rfl,rfl,rfl,by decide+kernel,rfl,by decide+kernel,by decide+kernel⟩
def aQ:Fn:=mkL 7
  (aF (aW 2 (eLv (af eDv av)))
  (aF (eV (eD (ae 0)) (gN 3) (aF (aW 4 (eOb av))
  (aF (eV (eD (ae 2)) (gN 5) (eV (iH (af (eUn lD (ae 1)) (af (eOp aU (ae 1) (eK (.int 1))) av))) (gN 6) (gk (eM cP cv (ae 4) (af (eFn mB (af (eOp aU (eLv (pH (ae 5))) (eLv (af (eFn my (af (ae 3) (af (ae 6) av))) av))) av)) av)))))
  (aW 2 (ae 4)))))
  (cB (ae 2))))
abbrev de:Stmt:=top 14
theorem i6:FnScope ["_law_word","_law_numbers"] ["_law_word","_law_numbers"] (ay de):=⟨rfl,rfl,rfl,by decide+kernel,rfl,by decide+kernel,by decide+kernel⟩
def bb:Fn:=mkF 2
  (cB (eIf (bq (eOp wG (ae 0) (eK (.str "")))) (eK (.int 0)) (eOp fIx (ae 1) (ae 0))))
abbrev dN:Stmt:=top 15
theorem jZ:FnScope ["_law_fact","_law_numbers"] ["_law_fact","_law_numbers"] (ay dN):=⟨rfl,rfl,rfl,by decide+kernel,rfl,by decide+kernel,by decide+kernel⟩
def a9:Fn:=mkF 2
  (cB (eOp fLe (eOp wD (eFn bb (af (eOp fIx (ae 0) (eK (.int 0))) (af (ae 1) av))) (eFn bb (af (eOp fIx (ae 0) (eK (.int 1))) (af (ae 1) av)))) (eOp fIx (ae 0) (eK (.int 2)))))
abbrev df:Stmt:=top 19
theorem eR:FnScope ["_law_facts_here","_law_fact","_law_words_here","_law_numbers"] ["_law_facts_here","_law_fact","_law_words_here"] (ay df):=⟨rfl,rfl,rfl,by decide+kernel,rfl,by decide+kernel,by decide+kernel⟩
def bz:Fn:=mkF 4
  (aF (eV (eD (eFn aQ (af (ae 2) (af (eK (.int 9)) av)))) (gN 3) (sIf (mW (qL (sE (eFn a9 (af (ae 1) (af (ae 3) av))))) (sE (eFn AR (af (eLv (fE [none,some 3] (eD (ae 0)) (gN 0) fF (eFn a9 (af (ae 0) (af (ae 1) av))))) av)))) (cB (eK (.bl false))) gj))
  (cB (eK (.bl true))))
abbrev dM:Stmt:=top 16
theorem aA:FnScope ["_law_facts_here","_law_x","_law_y","_law_words_here","_law_one","_law_other","_law_most","_law_best","_law_ends","_law_turn","_law_farther","_law_word"] ["_law_facts_here","_law_x","_law_y"] (ay dM):=⟨rfl,rfl,rfl,by decide+kernel,rfl,by decide+kernel,by decide+kernel⟩
def aR:Fn:=mkL 12
  (aF (aW 3 (eOb (af (eK (.str "")) av)))
  (aF (eV (eD (ae 0)) (gT 3 (aD (gN 4) (aD (gN 5) (aD (gN 6) cY)))) (gk (eM cP ft (ae 3) (af (eLv (fE [none,some 3] (eD (eFn my (af (ae 4) (af (ae 5) av)))) (gN 0) (bq (eOp di (ae 0) (ae 1))) (ae 0))) av))))
  (aF (aW 7 eDo)
  (aF (aW 8 (qr (qe (ae 1) (eK (.int 0)) wb)))
  (aF (eV (iH (af (eOp aU (eOp eZ (eK (.int 2)) (eFn fb (af (ae 3) av))) (eK (.int 2))) av)) (gN 9) (aF (aW 10 eDo)
  (aF (eV (eD (ae 0)) (gT 3 (aD (gN 4) (aD (gN 5) (aD (gN 6) cY)))) (sIf (bq (eOp fIn (ae 4) (ae 8))) (eW (eFn rR (af (eM iz nR (ae 10) (af (ae 5) (af (eOp aU (eOp fIx (ae 8) (ae 4)) (ae 6)) av))) (af (eOp aU (eOp fIx (ae 8) (ae 4)) (ae 6)) av))) (fz (ae 10) (ae 5))) gj))
  (aF (aW 8 (ae 10))
  (eU 8 7 11)))))
  (cB (eM iz nR (ae 7) (af (ae 2) av))))))))
abbrev cF:Stmt:=top 17
theorem dr:FnScope ["_law_facts_here","_law_words_here"] ["_law_facts_here"] (ay cF):=⟨rfl,rfl,rfl,by decide+kernel,rfl,by decide+kernel,by decide+kernel⟩
def a7:Fn:=mkF 2
  (aF (aW 1 (eOp aU (eLv (af (eK (.str "")) av)) (eLv (fE [none] (eD (ae 0)) (gN 0) fF (eOp fIx (ae 0) (eK (.int 0)))))))
  (cB (eFn y2 (af (eLv (fE [none,some 0] (eD (ae 1)) (gN 0) fF (eOp fLt (wI (eFn aR (af (ae 1) (af (ae 0) (af (ae 0) av)))) (eK (.int 0))) (eK (.int 0))))) av))))
abbrev cj:Stmt:=top 20
theorem cS:FnScope ["_law_facts_here","_law_fact","_law_least_here"] ["_law_facts_here","_law_fact"] (ay cj):=⟨rfl,rfl,rfl,by decide+kernel,rfl,by decide+kernel,by decide+kernel⟩
def aZ:Fn:=mkF 3
  (aF (aW 2 (eFn aR (af (ae 0) (af (eOp fIx (ae 1) (eK (.int 0))) (af (eOp fIx (ae 1) (eK (.int 1))) av)))))
  (cB (eOr (eFn a7 (af (ae 0) av)) (y7 (eOp qm (ae 2) (eK .non)) (eOp fLe (ae 2) (eOp fIx (ae 1) (eK (.int 2))))))))
abbrev iq:Stmt:=top 21
theorem cN:FnScope ["_law_script","_law_state","_law_turn","_law_words_here","_law_facts_here","_law_fact","_law_found","_law_far"] ["_law_script"] (ay iq):=⟨rfl,rfl,rfl,by decide+kernel,rfl,by decide+kernel,by decide+kernel⟩
def qD:Fn:=mkF 8
  (aF (aW 1 (eFn bO (af (ae 0) av)))
  (aF (eV (iH (af (eK (.int 6)) av)) (gN 2) (aF (aW 3 (eFn bN (af (ae 1) (af (eFn aY (af (ae 1) (af (eK (.lv [.int 1,.int 2,.int 2,.int 3])) av))) av))))
  (aF (aW 4 (eFn ba (af (ae 1) (af (ae 3) (af (eFn aI (af (ae 1) (af (eK (.int 8)) av))) (af (eK (.int 2)) av))))))
  (aF (aW 5 (eOp fIx (eFn ba (af (ae 1) (af (ae 3) (af (eK (.int 1)) (af (eK (.int 2)) av))))) (eK (.int 0))))
  (aF (aW 6 (eFn b0 (af (ae 4) (af (ae 5) av))))
  (aF (sIf (tOr (qL (sE (eFn y0 (af (ae 6) (af (eK (.ty "bool")) av))))) (bq (eOp gz (ae 6) (eFn bz (af (ae 4) (af (ae 5) (af (ae 3) av))))))) (cB (eK (.bl false))) gj)
  (aF (aW 3 (eFn bN (af (ae 1) (af (eOp aU (eK (.int 1)) (eFn aI (af (ae 1) (af (eK (.int 6)) av)))) av))))
  (aF (aW 7 (eFn aY (af (ae 1) (af (eLv (af (eK (.int 3)) (af (eK (.int 20)) (af (eOp uq (eK (.int 10)) (eK (.int 9))) av)))) av))))
  (aF (aW 4 (eFn ba (af (ae 1) (af (ae 3) (af (eFn aY (af (ae 1) (af (eK (.lv [.int 3,.int 8,.int 16,.int 30])) av))) (af (ae 7) av))))))
  (eV (eD (eFn ba (af (ae 1) (af (ae 3) (af (eK (.int 4)) (af (ae 7) av)))))) (gN 5) (sIf (bq (eOp gz (eFn b0 (af (ae 4) (af (ae 5) av))) (eFn aZ (af (ae 4) (af (ae 5) av))))) (cB (eK (.bl false))) gj)))))))))))
  (cB (eK (.bl true)))))
section
variable {P:Program} {w:World} {K:PySem.W.Frag} {mg:Str→Option Value} {base:Heap}
theorem j7 {f:Addr} {fd:FuncData} (F:Fun K "_law_drawn" "_law_drawn" dP f fd) (B:Bs P w K mg):FnOk P w K mg base CX0 1 f fd ["_law_script"] (spF K 1 bO):=
 (bo F j0 fun cdv A outer s H E hr=>by (conv=>arg 2;whnf);with_reducible exact (aw (aV (SFL.ob (cg (aa ak (aa (SFL.ob (vf (by unfold Gl;kernel_rfl) B.list_ qx (aa (oI (sv 0) lL (lK ak)) ah) (ab aq))) (aa ak ah))) (ab (ab (ab aq))))))))
theorem l8 {f:Addr} {fd:FuncData} (F:Fun K "_law_load" "_law_load" eT f fd) (B:Bs P w K mg):FnOk P w K mg base CX0 1 f fd ["_law_state"] (spF K 1 cE):=
 (bo F bt fun cdv A outer s H E hr=>by (conv=>arg 2;whnf);with_reducible exact (aj (sset 1 bt.nd (aS hr.units (sv 0) ak))
   (aj (sset 2 bt.nd (aS hr.units (sv 0) ak))
   (aj (c8 (aG aL (sv 2) ak) (fG hr.units (sv 0) ak))
   (aj (sset 3 bt.nd ak)
   (aj (eO (bC (jk hr.units) (sv 1) (SFL.lv (cg ah aq)) (bu _)) (aw (sset 3 bt.nd (aS hr.units (sv 1) (aG fP (sv 2) (bh fY (by unfold Gl;kernel_rfl) B.len_ gc (aa (sv 1) ah)))))) c7)
   (aw (eO (SW.st (oD (bC qf (sv 2) (bh fY (by unfold Gl;kernel_rfl) B.len_ gc (aa (sv 1) ah)) (bu _)) (lI (bC Ar (bh uJ (by unfold Gl;kernel_rfl) B.abs_ uR (aa (sv 3) ah)) (aG oZ ak ak) (bu _))))) (aw (c8 (bh uJ (by unfold Gl;kernel_rfl) B.abs_ uR (aa (sv 3) ah)) (fG hr.units (sv 0) ak))) (aj (sset 4 bt.nd (aG fP (aG cT (aG aL (aG aL (aG fP (sv 3) ak) (aG cT (aG cT ak (sv 2)) (sv 2))) ak) ak) ak))
   (aj (sset 4 bt.nd (aG fP (aG cT (sv 4) (sv 4)) ak))
   (aw (c8 (aG aL (aG fP (aG aL (aG aL (aG cT (sv 4) ak) (sv 2)) ak) ak) (aG oZ ak ak)) (fG hr.units (sv 0) ak)))))))))))))
theorem l7 {f:Addr} {fd:FuncData} (F:Fun K "_law_next" "_law_next" eS f fd) (B:Bs P w K mg) (d__law_load:Df P w K mg base "_law_load" 1 ["_law_state"] 1 cE):FnOk P w K mg base CX0 2 f fd ["_law_state","_law_many"] (spF K 2 aI):=
 (bo F gi fun cdv A outer s H E hr=>by (conv=>arg 2;whnf);with_reducible exact (aj (eO (bC qf (aS hr.units (sv 0) ak) (sv 1) (bu _)) (aw (gg (aJ d__law_load hr (by decide) (aa (sv 0) ah) (ab aq)))) c7)
   (aj (sset 2 gi.nd (aG fP (aS hr.units (sv 0) ak) (sv 1)))
   (aj (c8 (aG yA (aS hr.units (sv 0) ak) (sv 1)) (fG hr.units (sv 0) ak))
   (aw (aV (sv 2)))))))
theorem o5 {f:Addr} {fd:FuncData} (F:Fun K "_law_of" "_law_of" gU f fd) (B:Bs P w K mg) (d__law_next:Df P w K mg base "_law_next" 2 ["_law_state","_law_many"] 2 aI):FnOk P w K mg base CX0 3 f fd ["_law_state","_law_some"] (spF K 2 aY):=
 (bo F oK fun cdv A outer s H E hr=>by (conv=>arg 2;whnf);with_reducible exact (aw (aV (aS hr.units (sv 1) (aJ d__law_next hr (by decide) (aa (sv 0) (aa (bh fY (by unfold Gl;kernel_rfl) B.len_ gc (aa (sv 1) ah)) ah)) (ab (ab aq)))))))
theorem j3 {f:Addr} {fd:FuncData} (F:Fun K "_law_words" "_law_words" dJ f fd) (B:Bs P w K mg) (d__law_of:Df P w K mg base "_law_of" 3 ["_law_state","_law_some"] 2 aY) (d__law_next:Df P w K mg base "_law_next" 2 ["_law_state","_law_many"] 2 aI):FnOk P w K mg base CX0 4 f fd ["_law_state","_law_many"] (spF K 2 bN):=
 (bo F aX fun cdv A outer s H E hr=>by (conv=>arg 2;whnf);with_reducible exact (aj (sset 2 aX.nd eQ)
   (aj (sset 3 aX.nd eQ)
   (aj (cb PassesOwn.never rfl (cf (by unfold Gl;kernel_rfl) B.range_ (aa (aJ d__law_of hr (by decide) (aa (sv 0) (aa (fk 9 (by kernel_rfl)) ah)) (ab (ab aq))) ah) (hl:=(ab aq))) (sgn 4 aX.nd) (aw (sset 3 aX.nd (aG aL (sv 3) (aS hr.units (sv 2) (aJ d__law_next hr (by decide) (aa (sv 0) (aa ak ah)) (ab (ab aq))))))))
   (aj (sset 5 aX.nd (aJ d__law_next hr (by decide) (aa (sv 0) (aa (aG aL (bh fY (by unfold Gl;kernel_rfl) B.len_ gc (aa (sv 3) ah)) ak) ah)) (ab (ab aq))))
   (aj (sset 6 aX.nd (aJ d__law_next hr (by decide) (aa (sv 0) (aa ak ah)) (ab (ab aq))))
   (aj (sset 7 aX.nd (aJ d__law_of hr (by decide) (aa (sv 0) (aa (fk 9 (by kernel_rfl)) ah)) (ab (ab aq))))
   (aw (aV (fm (N':=["_law_k","_law_at","_law_first","_law_letters","_law_stem","_law_stride"]) (caps:=[none,some 5,some 6,some 2,some 3,some 7]) (bZ (by kernel_rfl)) rfl (cf (by unfold Gl;kernel_rfl) B.range_ (aa (sv 1) ah) (hl:=(ab aq))) (fun _ _ _ _ _=>(sgn 0 (by show (["_law_k","_law_at","_law_first","_law_letters","_law_stem","_law_stride"]:List Str).Nodup;decide+kernel))) (fun _ _ _ _ _=>dH) (fun _ _ _ _ _=>(aG aL (aG aL (oI (sv 4) lL (lK (sv 1))) (aS hr.units (sv 3) (aG fP (aG aL (sv 2) (aG cT (sv 5) (sv 0))) ak))) (oI (sv 4) (lK (sv 1)) lL)))))))))))))
theorem j6 {f:Addr} {fd:FuncData} (F:Fun K "_law_facts" "_law_facts" dO f fd) (B:Bs P w K mg) (d__law_of:Df P w K mg base "_law_of" 3 ["_law_state","_law_some"] 2 aY) (d__law_next:Df P w K mg base "_law_next" 2 ["_law_state","_law_many"] 2 aI):FnOk P w K mg base CX0 4 f fd ["_law_state","_law_words_here","_law_many","_law_far"] (spF K 4 ba):=
 dD (bo F bS fun cdv A outer s H E hr=>by (conv=>arg 2;whnf);with_reducible exact (aj (sset 4 bS.nd (SFL.ob (cg ah aq)))
   (aj (cb PassesOwn.never rfl (cf (by unfold Gl;kernel_rfl) B.range_ (aa (sv 2) ah) (hl:=(ab aq))) (sgn 5 bS.nd) (aj (sset 6 bS.nd (aJ d__law_of hr (by decide) (aa (sv 0) (aa (aG aL (sv 1) (SFL.lv (cg (aa eQ ah) (ab aq)))) ah)) (ab (ab aq))))
   (aj (sset 7 bS.nd (aJ d__law_of hr (by decide) (aa (sv 0) (aa (fm (N':=["_law_word","_law_x"]) (caps:=[none,some 6]) (bZ (by kernel_rfl)) rfl (cc (aG aL (sv 1) (SFL.lv (cg (aa eQ ah) (ab aq))))) (fun _ _ _ _ _=>(sgn 0 (by show (["_law_word","_law_x"]:List Str).Nodup;decide+kernel))) (fun _ _ _ _ _=>(pU (bC (jk hr.units) (sv 0) (sv 1) (bu _)))) (fun _ _ _ _ _=>(sv 0))) ah)) (ab (ab aq))))
   (aw (gg (qT (isT:=cP) lE PySem.F.plainAttrs_list PySem.F.slot_list_append PySem.F.type_list_append g5 (sv 4) (aa (gQ (aa (sv 6) (aa (sv 7) (aa (aG tT (aJ d__law_next hr (by decide) (aa (sv 0) (aa (aG aL (aG cT ak (sv 3)) ak) ah)) (ab (ab aq))) (sv 3)) ah))) (ab (ab (ab aq)))) ah)))))))
   (aw (aV (gh n4 (by unfold Gl;kernel_rfl) B.tuple_ oh (aa (sv 4) ah)))))))
theorem nF {f:Addr} {fd:FuncData} (F:Fun K "words_in" "words_in" fH f fd) (B:Bs P w K mg):FnOk P w K mg base CX0 1 f fd ["facts"] (spF K 1 bx):=
 (bo F ni fun cdv A outer s H E hr=>by (conv=>arg 2;whnf);with_reducible exact (aw (aV (sT (N':=["one","other","more","word"]) (caps:=[none,none,none,none]) (bZ (by kernel_rfl)) rfl (by unfold Gl;kernel_rfl) B.sorted_ (cc (sv 0)) (fun _ _ _ _ _=>(eP rfl (aE (sgn 0 (by show (["one","other","more","word"]:List Str).Nodup;decide+kernel)) (aE (sgn 1 (by show (["one","other","more","word"]:List Str).Nodup;decide+kernel)) (aE (sgn 2 (by show (["one","other","more","word"]:List Str).Nodup;decide+kernel)) cR))))) (fun _ _ _ _ _=>dH) (fun _ _ _ _ _=>(cc (gQ (aa (sv 0) (aa (sv 1) ah)) (ab (ab aq))))) (fun _ _ _ _ _=>(sgn 3 (by show (["one","other","more","word"]:List Str).Nodup;decide+kernel))) (fun _ _ _ _ _=>dH) (fun _ _ _ _ _=>(sv 3))))))
theorem rm {f:Addr} {fd:FuncData} (F:Fun K "settle" "settle" i7 f fd) (B:Bs P w K mg) (d_words_in:Df P w K mg base "words_in" 1 ["facts"] 1 bx):FnOk P w K mg base CX0 2 f fd ["facts","start"] (spF K 2 cD):=
 (bo F bj fun cdv A outer s H E hr=>by (conv=>arg 2;whnf);with_reducible exact (aj (sset 2 bj.nd (gh uG (by unfold Gl;kernel_rfl) B.dict_ qy (aa (sv 1) ah)))
   (aj (sset 3 bj.nd sU)
   (aj (sset 4 bj.nd c9)
   (aj (cb PassesOwn.never rfl (cf (by unfold Gl;kernel_rfl) B.range_ (aa (aG aL (bh fY (by unfold Gl;kernel_rfl) B.len_ gc (aa (aJ d_words_in hr (by decide) (aa (sv 0) ah) (ab aq)) ah)) ak) ah) (hl:=(ab aq))) (sgn 5 bj.nd) (aj (sset 4 bj.nd c9)
   (aj (cb PassesOwn.never rfl (vd (by unfold Gl;kernel_rfl) B.enumerate_ (aa (sv 0) ah) (ab aq)) (eP rfl (aE (sgn 6 bj.nd) (aE (eP rfl (aE (sgn 7 bj.nd) (aE (sgn 8 bj.nd) (aE (sgn 9 bj.nd) cR)))) cR))) (aw (eO (SW.st (oD (bC (xh hr.units) (sv 7) (sv 2) (by kernel_rfl)) (lI (SW.st (sJ (bC (jj hr.units) (sv 8) (sv 2) (by kernel_rfl)) (oC (bC qf (aG aL (aS hr.units (sv 2) (sv 7)) (sv 9)) (aS hr.units (sv 2) (sv 8)) (bu _)))))))) (aj (c8 (aG aL (aS hr.units (sv 2) (sv 7)) (sv 9)) (fG hr.units (sv 2) (sv 8)))
   (aj (c8 (sv 6) (fG hr.units (sv 3) (sv 8)))
   (aw (sset 4 bj.nd (sv 8))))) c7)))
   (aw (eO (bC tU (sv 4) c9 (bu _)) (aw xH) c7)))))
   (aw (aV (gQ (aa (sv 2) (aa (sv 3) (aa (sv 4) ah))) (ab (ab (ab aq)))))))))))
theorem nG {f:Addr} {fd:FuncData} (F:Fun K "way_back" "way_back" fI f fd) (B:Bs P w K mg):FnOk P w K mg base CX0 1 f fd ["facts","last","word","first"] (spF K 4 bH):=
 dD (bo F ip fun cdv A outer s H E hr=>by (conv=>arg 2;whnf);with_reducible exact (aj (sset 4 ip.nd (SFL.ob (cg (aa (aS hr.units (sv 1) (sv 2)) ah) (ab aq))))
   (aj (sO (n:=100) PassesOwn.never (bC (jk hr.units) (aS hr.units (aS hr.units (sv 0) (aS hr.units (sv 4) (ng iZ ak))) ak) (sv 3) (bu _)) (aw (gg (qT (isT:=cP) lE PySem.F.plainAttrs_list PySem.F.slot_list_append PySem.F.type_list_append g5 (sv 4) (aa (aS hr.units (sv 1) (aS hr.units (aS hr.units (sv 0) (aS hr.units (sv 4) (ng iZ ak))) ak)) ah)))))
   (aw (aV (gh n4 (by unfold Gl;kernel_rfl) B.tuple_ oh (aa (vi (sv 4) (ng iZ ak)) ah)))))))
theorem nJ {f:Addr} {fd:FuncData} (F:Fun K "chain_in" "chain_in" fK f fd) (B:Bs P w K mg) (d_settle:Df P w K mg base "settle" 2 ["facts","start"] 2 cD) (d_way_back:Df P w K mg base "way_back" 1 ["facts","last","word","first"] 4 bH):FnOk P w K mg base CX0 3 f fd ["facts","fact"] (spF K 2 cq):=
 dD (bo F bF fun cdv A outer s H E hr=>by (conv=>arg 2;whnf);with_reducible exact (aj (c8 (sv 1) (eP rfl (aE (sgn 2 bF.nd) (aE (sgn 3 bF.nd) (aE (sgn 4 bF.nd) cR)))))
   (aj (c8 (aJ d_settle hr (by decide) (aa (sv 0) (aa (pV (pT (sv 2) ak sP) (by kernel_rfl) (by kernel_rfl) (by simp) fun trs h=>qa h (by kernel_rfl) (by kernel_rfl) (by simp) (by decide)) ah)) (ab (ab aq))) (eP rfl (aE (sgn 5 bF.nd) (aE (sgn 6 bF.nd) (aE (sgn 7 bF.nd) cR)))))
   (aj (eO (SW.st (sJ (bC (jj hr.units) (sv 3) (sv 5) (by kernel_rfl)) (oC (bC Aq (aS hr.units (sv 5) (sv 3)) (sv 4) (bu _))))) (aw (aV c9)) c7)
   (aw (aV (aJ d_way_back hr (by decide) (aa (sv 0) (aa (sv 6) (aa (sv 3) (aa (sv 2) ah)))) (ab (ab (ab (ab aq)))))))))))
theorem nI {f:Addr} {fd:FuncData} (F:Fun K "round_in" "round_in" fJ f fd) (B:Bs P w K mg) (d_settle:Df P w K mg base "settle" 2 ["facts","start"] 2 cD) (d_words_in:Df P w K mg base "words_in" 1 ["facts"] 1 bx) (d_way_back:Df P w K mg base "way_back" 1 ["facts","last","word","first"] 4 bH):FnOk P w K mg base CX0 3 f fd ["facts"] (spF K 1 cp):=
 dD (bo F bE fun cdv A outer s H E hr=>by (conv=>arg 2;whnf);with_reducible exact (aj (c8 (aJ d_settle hr (by decide) (aa (sv 0) (aa (sV (N':=["word"]) (caps:=[none]) (bZ (by kernel_rfl)) rfl (cc (aJ d_words_in hr (by decide) (aa (sv 0) ah) (ab aq))) (fun _ _ _ _ _=>(sgn 0 (by show (["word"]:List Str).Nodup;decide+kernel))) (fun _ _ _ _ _=>dH) (fun _ _ _ _ _=>(sv 0)) (fun _ _ _ _ _=>ak)) ah)) (ab (ab aq))) (eP rfl (aE (sgn 1 bE.nd) (aE (sgn 2 bE.nd) (aE (sgn 3 bE.nd) cR)))))
   (aj (eO (bC tU (sv 3) c9 (bu _)) (aw (aV c9)) c7)
   (aj (sset 4 bE.nd (sv 3))
   (aj (cb PassesOwn.never rfl (cf (by unfold Gl;kernel_rfl) B.range_ (aa (bh fY (by unfold Gl;kernel_rfl) B.len_ gc (aa (sv 2) ah)) ah) (hl:=(ab aq))) (sgn 5 bE.nd) (aw (sset 4 bE.nd (aS hr.units (aS hr.units (sv 0) (aS hr.units (sv 2) (sv 4))) ak))))
   (aw (aV (aJ d_way_back hr (by decide) (aa (sv 0) (aa (sv 2) (aa (sv 4) (aa (sv 4) ah)))) (ab (ab (ab (ab aq))))))))))))
theorem o4 {f:Addr} {fd:FuncData} (F:Fun K "follows" "follows" gS f fd) (B:Bs P w K mg) (d_chain_in:Df P w K mg base "chain_in" 3 ["facts","fact"] 2 cq) (d_round_in:Df P w K mg base "round_in" 3 ["facts"] 1 cp):FnOk P w K mg base CX0 4 f fd ["facts","fact"] (spF K 2 b0):=
 (bo F oJ fun cdv A outer s H E hr=>by (conv=>arg 2;whnf);with_reducible exact (aw (aV (wZ (gR l4 (aJ d_round_in hr (by decide) (aa (sv 0) ah) (ab aq)) c9 (bu _)) (lO (gR l4 (aJ d_chain_in hr (by decide) (aa (sv 0) (aa (sv 1) ah)) (ab (ab aq))) c9 (bu _)))))))
theorem fx {f:Addr} {fd:FuncData} (F:Fun K "_law_all_numbers" "_law_all_numbers" bV f fd) (B:Bs P w K mg):FnOk P w K mg base CX0 1 f fd ["_law_words_here","_law_far"] (spF K 2 aQ):=
 dD (bo F aH fun cdv A outer s H E hr=>by (conv=>arg 2;whnf);with_reducible exact (aj (sset 2 aH.nd (SFL.lv (cg (aa w5 ah) (ab aq))))
   (aj (cb PassesOwn.never rfl (cc (sv 0)) (sgn 3 aH.nd) (aj (sset 4 aH.nd (SFL.ob (cg ah aq)))
   (aj (cb PassesOwn.never rfl (cc (sv 2)) (sgn 5 aH.nd) (aw (cb PassesOwn.never rfl (qR (by unfold Gl;kernel_rfl) B.range_ (aa (ng iZ (sv 1)) (aa (aG aL (sv 1) ak) ah)) (hl:=(ab (ab aq)))) (sgn 6 aH.nd) (aw (gg (qT (isT:=cP) lE PySem.F.plainAttrs_list PySem.F.slot_list_append PySem.F.type_list_append g5 (sv 4) (aa (gh (uH rfl) (by unfold Gl;kernel_rfl) B.dict_ qy (aa (aG aL (SFL.lv (qS rfl (by unfold Gl;kernel_rfl) B.list_ qx (sv 5))) (SFL.lv (cg (aa (gQ (aa (sv 3) (aa (sv 6) ah)) (ab (ab aq))) ah) (ab aq)))) ah)) ah)))))))
   (aw (sset 2 aH.nd (sv 4))))))
   (aw (aV (sv 2))))))
theorem jl {f:Addr} {fd:FuncData} (F:Fun K "_law_number" "_law_number" de f fd) (B:Bs P w K mg):FnOk P w K mg base CX0 1 f fd ["_law_word","_law_numbers"] (spF K 2 bb):=
 (bo F i6 fun cdv A outer s H E hr=>by (conv=>arg 2;whnf);with_reducible exact (aw (aV (zO (bC (yz hr.units) (sv 0) eQ (bu _)) ak (aS hr.units (sv 1) (sv 0))))))
theorem j5 {f:Addr} {fd:FuncData} (F:Fun K "_law_holds" "_law_holds" dN f fd) (B:Bs P w K mg) (d__law_number:Df P w K mg base "_law_number" 1 ["_law_word","_law_numbers"] 2 bb):FnOk P w K mg base CX0 2 f fd ["_law_fact","_law_numbers"] (spF K 2 a9):=
 (bo F jZ fun cdv A outer s H E hr=>by (conv=>arg 2;whnf);with_reducible exact (aw (aV (gR xg (aG tT (aJ d__law_number hr (by decide) (aa (aS hr.units (sv 0) ak) (aa (sv 1) ah)) (ab (ab aq))) (aJ d__law_number hr (by decide) (aa (aS hr.units (sv 0) ak) (aa (sv 1) ah)) (ab (ab aq)))) (aS hr.units (sv 0) ak) (bu _)))))
theorem jm {f:Addr} {fd:FuncData} (F:Fun K "_law_by_all" "_law_by_all" df f fd) (B:Bs P w K mg) (d__law_all_numbers:Df P w K mg base "_law_all_numbers" 1 ["_law_words_here","_law_far"] 2 aQ) (d__law_holds:Df P w K mg base "_law_holds" 2 ["_law_fact","_law_numbers"] 2 a9):FnOk P w K mg base CX0 3 f fd ["_law_facts_here","_law_fact","_law_words_here"] (spF K 3 bz):=
 (bo F eR fun cdv A outer s H E hr=>by (conv=>arg 2;whnf);with_reducible exact (aj (cb PassesOwn.never rfl (cc (aJ d__law_all_numbers hr (by decide) (aa (sv 2) (aa ak ah)) (ab (ab aq)))) (sgn 3 eR.nd) (aw (eO (SW.st (oD (sN (oF (aJ d__law_holds hr (by decide) (aa (sv 1) (aa (sv 3) ah)) (ab (ab aq))))) (lI (oF (bh (zc rfl) (by unfold Gl;kernel_rfl) B.all_ zh (aa (fm (N':=["_law_one","_law_numbers"]) (caps:=[none,some 3]) (bZ (by kernel_rfl)) rfl (cc (sv 0)) (fun _ _ _ _ _=>(sgn 0 (by show (["_law_one","_law_numbers"]:List Str).Nodup;decide+kernel))) (fun _ _ _ _ _=>dH) (fun _ _ _ _ _=>(aJ d__law_holds hr (by decide) (aa (sv 0) (aa (sv 1) ah)) (ab (ab aq))))) ah)))))) (aw (aV kF)) c7)))
   (aw (aV kF))))
theorem j4 {f:Addr} {fd:FuncData} (F:Fun K "_law_least" "_law_least" dM f fd) (B:Bs P w K mg):FnOk P w K mg base CX0 1 f fd ["_law_facts_here","_law_x","_law_y"] (spF K 3 aR):=
 dD (bo F aA fun cdv A outer s H E hr=>by (conv=>arg 2;whnf);with_reducible exact (aj (sset 3 aA.nd (SFL.ob (cg (aa eQ ah) (ab aq))))
   (aj (cb PassesOwn.never rfl (cc (sv 0)) (eP rfl (aE (sgn 4 aA.nd) (aE (sgn 5 aA.nd) (aE (sgn 6 aA.nd) cR)))) (aw (gg (qT (isT:=cP) lE PySem.F.plainAttrs_list PySem.F.slot_list_extend PySem.F.type_list_extend rA (sv 3) (aa (fm (N':=["_law_word","_law_words_here"]) (caps:=[none,some 3]) (bZ (by kernel_rfl)) rfl (cc (gQ (aa (sv 4) (aa (sv 5) ah)) (ab (ab aq)))) (fun _ _ _ _ _=>(sgn 0 (by show (["_law_word","_law_words_here"]:List Str).Nodup;decide+kernel))) (fun _ _ _ _ _=>(pU (bC (jj hr.units) (sv 0) (sv 1) (by kernel_rfl)))) (fun _ _ _ _ _=>(sv 0))) ah)))))
   (aj (sset 7 aA.nd sU)
   (aj (sset 8 aA.nd (pV (pT (sv 1) ak sP) (by kernel_rfl) (by kernel_rfl) (by simp) fun trs h=>qa h (by kernel_rfl) (by kernel_rfl) (by simp) (by decide)))
   (aj (cb PassesOwn.never rfl (cf (by unfold Gl;kernel_rfl) B.range_ (aa (aG aL (aG cT ak (bh fY (by unfold Gl;kernel_rfl) B.len_ gc (aa (sv 3) ah))) ak) ah) (hl:=(ab aq))) (sgn 9 aA.nd) (aj (sset 10 aA.nd sU)
   (aj (cb PassesOwn.never rfl (cc (sv 0)) (eP rfl (aE (sgn 4 aA.nd) (aE (sgn 5 aA.nd) (aE (sgn 6 aA.nd) cR)))) (aw (eO (bC (xh hr.units) (sv 4) (sv 8) (by kernel_rfl)) (aw (c8 (bh (y9 rfl) (by unfold Gl;kernel_rfl) B.min_ uQ (aa (qT (isT:=iz) so PySem.F.plainAttrs_dict PySem.F.slot_dict_get PySem.F.type_dict_get (t4 (kY hr)) (sv 10) (aa (sv 5) (aa (aG aL (aS hr.units (sv 8) (sv 4)) (sv 6)) ah))) (aa (aG aL (aS hr.units (sv 8) (sv 4)) (sv 6)) ah))) (fG hr.units (sv 10) (sv 5)))) c7)))
   (aj (sset 8 aA.nd (sv 10))
   (aw (oG (e:=8) (b:=7) (w:=11) (by decide) (by decide) (by with_unfolding_all exact (Nat.lt_of_lt_of_le (by decide:11 < 12) (Nat.le_of_eq rfl))) (by with_unfolding_all exact (tH PassesOwn.never rfl (vX (pv 8)) (p9 aA.nd rfl (by first | exact Or.inl rfl | exact Or.inr rfl)) (p6 (vO (kY hr) (pv 7) (pv 11) (jh (ll rfl) rfl B.min_ uQ (iP (tR (kY hr) (pv 7) (pv 11) (qb (kY hr) (pv 8) (pv 11) (fun _ _=>rfl)) ⟨rfl,rfl,rfl,rfl⟩) (iP (qb (kY hr) (pv 8) (pv 11) (fun _ _=>rfl)) oY))) rfl))))))))))
   (aw (aV (qT (isT:=iz) so PySem.F.plainAttrs_dict PySem.F.slot_dict_get PySem.F.type_dict_get (t4 (kY hr)) (sv 7) (aa (sv 2) ah))))))))))
theorem g4 {f:Addr} {fd:FuncData} (F:Fun K "_law_is_round" "_law_is_round" cF f fd) (B:Bs P w K mg) (d__law_least:Df P w K mg base "_law_least" 1 ["_law_facts_here","_law_x","_law_y"] 3 aR):FnOk P w K mg base CX0 2 f fd ["_law_facts_here"] (spF K 1 a7):=
 (bo F dr fun cdv A outer s H E hr=>by (conv=>arg 2;whnf);with_reducible exact (aj (sset 1 dr.nd (aG aL (SFL.lv (cg (aa eQ ah) (ab aq))) (fm (N':=["_law_fact"]) (caps:=[none]) (bZ (by kernel_rfl)) rfl (cc (sv 0)) (fun _ _ _ _ _=>(sgn 0 (by show (["_law_fact"]:List Str).Nodup;decide+kernel))) (fun _ _ _ _ _=>dH) (fun _ _ _ _ _=>(aS hr.units (sv 0) ak)))))
   (aw (aV (bh (zb rfl) (by unfold Gl;kernel_rfl) B.any_ zg (aa (fm (N':=["_law_word","_law_facts_here"]) (caps:=[none,some 0]) (bZ (by kernel_rfl)) rfl (cc (sv 1)) (fun _ _ _ _ _=>(sgn 0 (by show (["_law_word","_law_facts_here"]:List Str).Nodup;decide+kernel))) (fun _ _ _ _ _=>dH) (fun _ _ _ _ _=>(gR qf (xN (aJ d__law_least hr (by decide) (aa (sv 1) (aa (sv 0) (aa (sv 0) ah))) (ab (ab (ab aq)))) (lO ak)) ak (bu _)))) ah))))))
theorem gu {f:Addr} {fd:FuncData} (F:Fun K "_law_by_chains" "_law_by_chains" cj f fd) (B:Bs P w K mg) (d__law_least:Df P w K mg base "_law_least" 1 ["_law_facts_here","_law_x","_law_y"] 3 aR) (d__law_is_round:Df P w K mg base "_law_is_round" 2 ["_law_facts_here"] 1 a7):FnOk P w K mg base CX0 3 f fd ["_law_facts_here","_law_fact"] (spF K 2 aZ):=
 (bo F cS fun cdv A outer s H E hr=>by (conv=>arg 2;whnf);with_reducible exact (aj (sset 2 cS.nd (aJ d__law_least hr (by decide) (aa (sv 0) (aa (aS hr.units (sv 1) ak) (aa (aS hr.units (sv 1) ak) ah))) (ab (ab (ab aq)))))
   (aw (aV (wZ (aJ d__law_is_round hr (by decide) (aa (sv 0) ah) (ab aq)) (lO (xO (gR l4 (sv 2) c9 (bu _)) (lO (gR xg (sv 2) (aS hr.units (sv 1) ak) (bu _))))))))))
theorem yJ {f:Addr} {fd:FuncData} (F:Fun K "law" "law" iq f fd) (B:Bs P w K mg) (d__law_drawn:Df P w K mg base "_law_drawn" 1 ["_law_script"] 1 bO) (d__law_words:Df P w K mg base "_law_words" 4 ["_law_state","_law_many"] 2 bN) (d__law_of:Df P w K mg base "_law_of" 3 ["_law_state","_law_some"] 2 aY) (d__law_facts:Df P w K mg base "_law_facts" 4 ["_law_state","_law_words_here","_law_many","_law_far"] 4 ba) (d__law_next:Df P w K mg base "_law_next" 2 ["_law_state","_law_many"] 2 aI) (d_follows:Df P w K mg base "follows" 4 ["facts","fact"] 2 b0) (d__law_by_all:Df P w K mg base "_law_by_all" 3 ["_law_facts_here","_law_fact","_law_words_here"] 3 bz) (d__law_by_chains:Df P w K mg base "_law_by_chains" 3 ["_law_facts_here","_law_fact"] 2 aZ):FnOk P w K mg base CX0 5 f fd ["_law_script"] (spF K 1 qD):=
 (bo F cN fun cdv A outer s H E hr=>by (conv=>arg 2;whnf);with_reducible exact (aj (sset 1 cN.nd (aJ d__law_drawn hr (by decide) (aa (sv 0) ah) (ab aq)))
   (aj (cb PassesOwn.never rfl (cf (by unfold Gl;kernel_rfl) B.range_ (aa ak ah) (hl:=(ab aq))) (sgn 2 cN.nd) (aj (sset 3 cN.nd (aJ d__law_words hr (by decide) (aa (sv 1) (aa (aJ d__law_of hr (by decide) (aa (sv 1) (aa (fk 9 (by kernel_rfl)) ah)) (ab (ab aq))) ah)) (ab (ab aq))))
   (aj (sset 4 cN.nd (aJ d__law_facts hr (by decide) (aa (sv 1) (aa (sv 3) (aa (aJ d__law_next hr (by decide) (aa (sv 1) (aa ak ah)) (ab (ab aq))) (aa ak ah)))) (ab (ab (ab (ab aq))))))
   (aj (sset 5 cN.nd (aS hr.units (aJ d__law_facts hr (by decide) (aa (sv 1) (aa (sv 3) (aa ak (aa ak ah)))) (ab (ab (ab (ab aq))))) ak))
   (aj (sset 6 cN.nd (aJ d_follows hr (by decide) (aa (sv 4) (aa (sv 5) ah)) (ab (ab aq))))
   (aj (eO (SW.st (sJ (sN (oF (bh za (by unfold Gl;kernel_rfl) B.isinstance_ kh (aa (sv 6) (aa (zN (by unfold Gl;kernel_rfl) B.bool_ wN) ah))))) (oC (bC (jk hr.units) (sv 6) (aJ d__law_by_all hr (by decide) (aa (sv 4) (aa (sv 5) (aa (sv 3) ah))) (ab (ab (ab aq)))) (bu _))))) (aw (aV kF)) c7)
   (aj (sset 3 cN.nd (aJ d__law_words hr (by decide) (aa (sv 1) (aa (aG aL ak (aJ d__law_next hr (by decide) (aa (sv 1) (aa ak ah)) (ab (ab aq)))) ah)) (ab (ab aq))))
   (aj (sset 7 cN.nd (aJ d__law_of hr (by decide) (aa (sv 1) (aa (SFL.lv (cg (aa ak (aa ak (aa (aG oZ ak ak) ah))) (ab (ab (ab aq))))) ah)) (ab (ab aq))))
   (aj (sset 4 cN.nd (aJ d__law_facts hr (by decide) (aa (sv 1) (aa (sv 3) (aa (aJ d__law_of hr (by decide) (aa (sv 1) (aa (fk 9 (by kernel_rfl)) ah)) (ab (ab aq))) (aa (sv 7) ah)))) (ab (ab (ab (ab aq))))))
   (aw (cb PassesOwn.never rfl (cc (aJ d__law_facts hr (by decide) (aa (sv 1) (aa (sv 3) (aa ak (aa (sv 7) ah)))) (ab (ab (ab (ab aq)))))) (sgn 5 cN.nd) (aw (eO (bC (jk hr.units) (aJ d_follows hr (by decide) (aa (sv 4) (aa (sv 5) ah)) (ab (ab aq))) (aJ d__law_by_chains hr (by decide) (aa (sv 4) (aa (sv 5) ah)) (ab (ab aq))) (bu _)) (aw (aV kF)) c7)))))))))))))
   (aw (aV kF)))))
end
abbrev pw:Program:=PySem.Challenge.pw_neverstuck_k10_what_follows
def view:Program:={pw with main:={pw.main with body:=[top 1,top 2,top 3,top 4,top 5,top 6,top 8,top 9,top 10,top 11,top 12,top 13,top 14,top 15,top 16,top 17,top 18,top 19,top 20,top 21]}}
theorem dC:Hd.freeOk view ([]:List Str) ["abs","all","any","bool","dict","enumerate","isinstance","len","list","min","range","sorted","tuple"]=true:=by decide+kernel
theorem je:(recsOf view).find? (fun e=>e.name==("_law_drawn":Str))=some (Hd.bD "_law_drawn" dP):=by kernel_rfl
theorem j2:(recsOf view).find? (fun e=>e.name==("_law_load":Str))=some (Hd.bD "_law_load" eT):=by kernel_rfl
theorem j1:(recsOf view).find? (fun e=>e.name==("_law_next":Str))=some (Hd.bD "_law_next" eS):=by kernel_rfl
theorem nr:(recsOf view).find? (fun e=>e.name==("_law_of":Str))=some (Hd.bD "_law_of" gU):=by kernel_rfl
theorem ja:(recsOf view).find? (fun e=>e.name==("_law_words":Str))=some (Hd.bD "_law_words" dJ):=by kernel_rfl
theorem jd:(recsOf view).find? (fun e=>e.name==("_law_facts":Str))=some (Hd.bD "_law_facts" dO):=by kernel_rfl
theorem lU:(recsOf view).find? (fun e=>e.name==("words_in":Str))=some (Hd.bD "words_in" fH):=by kernel_rfl
theorem oU:(recsOf view).find? (fun e=>e.name==("settle":Str))=some (Hd.bD "settle" i7):=by kernel_rfl
theorem lV:(recsOf view).find? (fun e=>e.name==("way_back":Str))=some (Hd.bD "way_back" fI):=by kernel_rfl
theorem lX:(recsOf view).find? (fun e=>e.name==("chain_in":Str))=some (Hd.bD "chain_in" fK):=by kernel_rfl
theorem lW:(recsOf view).find? (fun e=>e.name==("round_in":Str))=some (Hd.bD "round_in" fJ):=by kernel_rfl
theorem nq:(recsOf view).find? (fun e=>e.name==("follows":Str))=some (Hd.bD "follows" gS):=by kernel_rfl
theorem eY:(recsOf view).find? (fun e=>e.name==("_law_all_numbers":Str))=some (Hd.bD "_law_all_numbers" bV):=by kernel_rfl
theorem iE:(recsOf view).find? (fun e=>e.name==("_law_number":Str))=some (Hd.bD "_law_number" de):=by kernel_rfl
theorem jc:(recsOf view).find? (fun e=>e.name==("_law_holds":Str))=some (Hd.bD "_law_holds" dN):=by kernel_rfl
theorem iF:(recsOf view).find? (fun e=>e.name==("_law_by_all":Str))=some (Hd.bD "_law_by_all" df):=by kernel_rfl
theorem jb:(recsOf view).find? (fun e=>e.name==("_law_least":Str))=some (Hd.bD "_law_least" dM):=by kernel_rfl
theorem gq:(recsOf view).find? (fun e=>e.name==("_law_is_round":Str))=some (Hd.bD "_law_is_round" cF):=by kernel_rfl
theorem fM:(recsOf view).find? (fun e=>e.name==("_law_by_chains":Str))=some (Hd.bD "_law_by_chains" cj):=by kernel_rfl
theorem vn:(recsOf view).find? (fun e=>e.name==("law":Str))=some (Hd.bD "law" iq):=by kernel_rfl
theorem all_mk {l:PySem.W.OpenLaw} {w:World} {h:Heap} {mg mb:Str→Option Value} {mean:ExcName→Option Value} (T:Top view (PySem.W.looseW view ([]:List Str)) mean mg mb h)
  (hF:∀ns:List Int,ns.length≤63→∃h',qD [.ro (ns.map D.int)] []=some (.bl true,h')):
  ∃(fa:Addr) (fd:FuncData),mg "law"=some (.ref fa)∧(∀(s:Shared) (v:Value),BindsTo s fd ⟨[v],[]⟩ [("_law_script",v)])∧∀base:Heap,(Hd.bQ h).In base→base.Ns mainGlobals mg→FnOk l.prog w (Hd.bQ h) mg base CX0 5 fa fd ["_law_script"] (spT (Hd.bQ h)):=by
 have B:Bs l.prog w (Hd.bQ h) mg:=⟨Hd.bL T dC (List.Mem.head _),Hd.bL T dC (List.Mem.tail _ (List.Mem.head _)),Hd.bL T dC (List.Mem.tail _ (List.Mem.tail _ (List.Mem.head _))),Hd.bL T dC (List.Mem.tail _ (List.Mem.tail _ (List.Mem.tail _ (List.Mem.head _)))),Hd.bL T dC (List.Mem.tail _ (List.Mem.tail _ (List.Mem.tail _ (List.Mem.tail _ (List.Mem.head _))))),Hd.bL T dC (List.Mem.tail _ (List.Mem.tail _ (List.Mem.tail _ (List.Mem.tail _ (List.Mem.tail _ (List.Mem.head _)))))),Hd.bL T dC (List.Mem.tail _ (List.Mem.tail _ (List.Mem.tail _ (List.Mem.tail _ (List.Mem.tail _ (List.Mem.tail _ (List.Mem.head _))))))),Hd.bL T dC (List.Mem.tail _ (List.Mem.tail _ (List.Mem.tail _ (List.Mem.tail _ (List.Mem.tail _ (List.Mem.tail _ (List.Mem.tail _ (List.Mem.head _)))))))),Hd.bL T dC (List.Mem.tail _ (List.Mem.tail _ (List.Mem.tail _ (List.Mem.tail _ (List.Mem.tail _ (List.Mem.tail _ (List.Mem.tail _ (List.Mem.tail _ (List.Mem.head _))))))))),Hd.bL T dC (List.Mem.tail _ (List.Mem.tail _ (List.Mem.tail _ (List.Mem.tail _ (List.Mem.tail _ (List.Mem.tail _ (List.Mem.tail _ (List.Mem.tail _ (List.Mem.tail _ (List.Mem.head _)))))))))),Hd.bL T dC (List.Mem.tail _ (List.Mem.tail _ (List.Mem.tail _ (List.Mem.tail _ (List.Mem.tail _ (List.Mem.tail _ (List.Mem.tail _ (List.Mem.tail _ (List.Mem.tail _ (List.Mem.tail _ (List.Mem.head _))))))))))),Hd.bL T dC (List.Mem.tail _ (List.Mem.tail _ (List.Mem.tail _ (List.Mem.tail _ (List.Mem.tail _ (List.Mem.tail _ (List.Mem.tail _ (List.Mem.tail _ (List.Mem.tail _ (List.Mem.tail _ (List.Mem.tail _ (List.Mem.head _)))))))))))),Hd.bL T dC (List.Mem.tail _ (List.Mem.tail _ (List.Mem.tail _ (List.Mem.tail _ (List.Mem.tail _ (List.Mem.tail _ (List.Mem.tail _ (List.Mem.tail _ (List.Mem.tail _ (List.Mem.tail _ (List.Mem.tail _ (List.Mem.tail _ (List.Mem.head _)))))))))))))⟩
 obtain ⟨f1,fd1,m1,F1⟩:=Hd.bY T je
 have k1:=F1.kp
 have b1:=F1.binds (ps:=["_law_script"]) fun _ _ _ _ _ _ us hl=>match us,hl with | [_],_=>rfl
 obtain ⟨f2,fd2,m2,F2⟩:=Hd.bY T j2
 have k2:=F2.kp
 have b2:=F2.binds (ps:=["_law_state"]) fun _ _ _ _ _ _ us hl=>match us,hl with | [_],_=>rfl
 obtain ⟨f3,fd3,m3,F3⟩:=Hd.bY T j1
 have k3:=F3.kp
 have b3:=F3.binds (ps:=["_law_state","_law_many"]) fun _ _ _ _ _ _ us hl=>match us,hl with | [_,_],_=>rfl
 obtain ⟨f4,fd4,m4,F4⟩:=Hd.bY T nr
 have k4:=F4.kp
 have b4:=F4.binds (ps:=["_law_state","_law_some"]) fun _ _ _ _ _ _ us hl=>match us,hl with | [_,_],_=>rfl
 obtain ⟨f5,fd5,m5,F5⟩:=Hd.bY T ja
 have k5:=F5.kp
 have b5:=F5.binds (ps:=["_law_state","_law_many"]) fun _ _ _ _ _ _ us hl=>match us,hl with | [_,_],_=>rfl
 obtain ⟨f6,fd6,m6,F6⟩:=Hd.bY T jd
 have k6:=F6.kp
 have b6:=F6.binds (ps:=["_law_state","_law_words_here","_law_many","_law_far"]) fun _ _ _ _ _ _ us hl=>match us,hl with | [_,_,_,_],_=>rfl
 obtain ⟨f7,fd7,m7,F7⟩:=Hd.bY T lU
 have k7:=F7.kp
 have b7:=F7.binds (ps:=["facts"]) fun _ _ _ _ _ _ us hl=>match us,hl with | [_],_=>rfl
 obtain ⟨f8,fd8,m8,F8⟩:=Hd.bY T oU
 have k8:=F8.kp
 have b8:=F8.binds (ps:=["facts","start"]) fun _ _ _ _ _ _ us hl=>match us,hl with | [_,_],_=>rfl
 obtain ⟨f9,fd9,m9,F9⟩:=Hd.bY T lV
 have k9:=F9.kp
 have b9:=F9.binds (ps:=["facts","last","word","first"]) fun _ _ _ _ _ _ us hl=>match us,hl with | [_,_,_,_],_=>rfl
 obtain ⟨f10,fd10,m10,F10⟩:=Hd.bY T lX
 have k10:=F10.kp
 have b10:=F10.binds (ps:=["facts","fact"]) fun _ _ _ _ _ _ us hl=>match us,hl with | [_,_],_=>rfl
 obtain ⟨f11,fd11,m11,F11⟩:=Hd.bY T lW
 have k11:=F11.kp
 have b11:=F11.binds (ps:=["facts"]) fun _ _ _ _ _ _ us hl=>match us,hl with | [_],_=>rfl
 obtain ⟨f12,fd12,m12,F12⟩:=Hd.bY T nq
 have k12:=F12.kp
 have b12:=F12.binds (ps:=["facts","fact"]) fun _ _ _ _ _ _ us hl=>match us,hl with | [_,_],_=>rfl
 obtain ⟨f13,fd13,m13,F13⟩:=Hd.bY T eY
 have k13:=F13.kp
 have b13:=F13.binds (ps:=["_law_words_here","_law_far"]) fun _ _ _ _ _ _ us hl=>match us,hl with | [_,_],_=>rfl
 obtain ⟨f14,fd14,m14,F14⟩:=Hd.bY T iE
 have k14:=F14.kp
 have b14:=F14.binds (ps:=["_law_word","_law_numbers"]) fun _ _ _ _ _ _ us hl=>match us,hl with | [_,_],_=>rfl
 obtain ⟨f15,fd15,m15,F15⟩:=Hd.bY T jc
 have k15:=F15.kp
 have b15:=F15.binds (ps:=["_law_fact","_law_numbers"]) fun _ _ _ _ _ _ us hl=>match us,hl with | [_,_],_=>rfl
 obtain ⟨f16,fd16,m16,F16⟩:=Hd.bY T iF
 have k16:=F16.kp
 have b16:=F16.binds (ps:=["_law_facts_here","_law_fact","_law_words_here"]) fun _ _ _ _ _ _ us hl=>match us,hl with | [_,_,_],_=>rfl
 obtain ⟨f17,fd17,m17,F17⟩:=Hd.bY T jb
 have k17:=F17.kp
 have b17:=F17.binds (ps:=["_law_facts_here","_law_x","_law_y"]) fun _ _ _ _ _ _ us hl=>match us,hl with | [_,_,_],_=>rfl
 obtain ⟨f18,fd18,m18,F18⟩:=Hd.bY T gq
 have k18:=F18.kp
 have b18:=F18.binds (ps:=["_law_facts_here"]) fun _ _ _ _ _ _ us hl=>match us,hl with | [_],_=>rfl
 obtain ⟨f19,fd19,m19,F19⟩:=Hd.bY T fM
 have k19:=F19.kp
 have b19:=F19.binds (ps:=["_law_facts_here","_law_fact"]) fun _ _ _ _ _ _ us hl=>match us,hl with | [_,_],_=>rfl
 obtain ⟨f20,fd20,m20,F20⟩:=Hd.bY T vn
 have k20:=F20.kp
 refine ⟨f20,fd20,m20,F20.one fun _ _ _ _ _ _ _=>rfl,fun base _ _=>?_⟩
 have d__law_drawn:Df l.prog w (Hd.bQ h) mg base "_law_drawn" 1 ["_law_script"] 1 bO:=⟨f1,_,j7 F1 B,k1,b1,m1⟩
 have d__law_load:Df l.prog w (Hd.bQ h) mg base "_law_load" 1 ["_law_state"] 1 cE:=⟨f2,_,l8 F2 B,k2,b2,m2⟩
 have d__law_next:Df l.prog w (Hd.bQ h) mg base "_law_next" 2 ["_law_state","_law_many"] 2 aI:=⟨f3,_,l7 F3 B d__law_load,k3,b3,m3⟩
 have d__law_of:Df l.prog w (Hd.bQ h) mg base "_law_of" 3 ["_law_state","_law_some"] 2 aY:=⟨f4,_,o5 F4 B d__law_next,k4,b4,m4⟩
 have d__law_words:Df l.prog w (Hd.bQ h) mg base "_law_words" 4 ["_law_state","_law_many"] 2 bN:=⟨f5,_,j3 F5 B d__law_of d__law_next,k5,b5,m5⟩
 have d__law_facts:Df l.prog w (Hd.bQ h) mg base "_law_facts" 4 ["_law_state","_law_words_here","_law_many","_law_far"] 4 ba:=⟨f6,_,j6 F6 B d__law_of d__law_next,k6,b6,m6⟩
 have d_words_in:Df l.prog w (Hd.bQ h) mg base "words_in" 1 ["facts"] 1 bx:=⟨f7,_,nF F7 B,k7,b7,m7⟩
 have d_settle:Df l.prog w (Hd.bQ h) mg base "settle" 2 ["facts","start"] 2 cD:=⟨f8,_,rm F8 B d_words_in,k8,b8,m8⟩
 have d_way_back:Df l.prog w (Hd.bQ h) mg base "way_back" 1 ["facts","last","word","first"] 4 bH:=⟨f9,_,nG F9 B,k9,b9,m9⟩
 have d_chain_in:Df l.prog w (Hd.bQ h) mg base "chain_in" 3 ["facts","fact"] 2 cq:=⟨f10,_,nJ F10 B d_settle d_way_back,k10,b10,m10⟩
 have d_round_in:Df l.prog w (Hd.bQ h) mg base "round_in" 3 ["facts"] 1 cp:=⟨f11,_,nI F11 B d_settle d_words_in d_way_back,k11,b11,m11⟩
 have d_follows:Df l.prog w (Hd.bQ h) mg base "follows" 4 ["facts","fact"] 2 b0:=⟨f12,_,o4 F12 B d_chain_in d_round_in,k12,b12,m12⟩
 have d__law_all_numbers:Df l.prog w (Hd.bQ h) mg base "_law_all_numbers" 1 ["_law_words_here","_law_far"] 2 aQ:=⟨f13,_,fx F13 B,k13,b13,m13⟩
 have d__law_number:Df l.prog w (Hd.bQ h) mg base "_law_number" 1 ["_law_word","_law_numbers"] 2 bb:=⟨f14,_,jl F14 B,k14,b14,m14⟩
 have d__law_holds:Df l.prog w (Hd.bQ h) mg base "_law_holds" 2 ["_law_fact","_law_numbers"] 2 a9:=⟨f15,_,j5 F15 B d__law_number,k15,b15,m15⟩
 have d__law_by_all:Df l.prog w (Hd.bQ h) mg base "_law_by_all" 3 ["_law_facts_here","_law_fact","_law_words_here"] 3 bz:=⟨f16,_,jm F16 B d__law_all_numbers d__law_holds,k16,b16,m16⟩
 have d__law_least:Df l.prog w (Hd.bQ h) mg base "_law_least" 1 ["_law_facts_here","_law_x","_law_y"] 3 aR:=⟨f17,_,j4 F17 B,k17,b17,m17⟩
 have d__law_is_round:Df l.prog w (Hd.bQ h) mg base "_law_is_round" 2 ["_law_facts_here"] 1 a7:=⟨f18,_,g4 F18 B d__law_least,k18,b18,m18⟩
 have d__law_by_chains:Df l.prog w (Hd.bQ h) mg base "_law_by_chains" 3 ["_law_facts_here","_law_fact"] 2 aZ:=⟨f19,_,gu F19 B d__law_least d__law_is_round,k19,b19,m19⟩
 exact wq (yJ F20 B d__law_drawn d__law_words d__law_of d__law_facts d__law_next d_follows d__law_by_all d__law_by_chains) hF
end Mi
local macro_rules | `(tactic| walk_at "one") => `(tactic| with_reducible first
 | refine Sm.zW ?_ | refine Sm.A6 ?_ | refine Sm.zV ?_ | refine Sm.Aa ?_ | refine Sm.x9 ?_ | refine Sm.zX ?_ | refine Sm.zU ?_ | refine Sm.x4 ?_ | refine Sm.z0 ?_ | refine Sm.x5 ?_ | refine Sm.vq ?_
 | refine Sm.vt ?_ | refine Sm.Bj ?_ | refine Sm.r_k ?_ | refine Sm.Bt ?_ | refine Sm.ya ?_ | refine Sm.z5 ?_ | refine Sm.Bp ?_ | refine Sm.Bo ?_ | refine Sm.Bm ?_ | refine Sm.Bu ?_ | refine Sm.Bv ?_
 | refine Sm.yc ?_ | refine Sm.xY ?_ | refine Sm.xZ ?_ | refine Sm.x3 ?_ | refine Sm.zT ?_ | refine Sm.Ab ?_ | refine Sm.Bl ?_ | refine Sm.z4 ?_
 | refine Sm.Bk ?_ | refine Sm.zY ?_ | refine Sm.zZ ?_ | refine Sm.Br ?_ | refine Sm.x8 ?_ | refine Sm.tu ?_ | refine Sm.vB ?_ | refine Sm.z7 ?_ | refine Sm.yb ?_
 | refine Sm.BG ?_ | refine Sm.BH ?_ | refine Sm.A4 ?_ | refine Sm.A9 ?_ | refine Sm.A8 ?_ | refine Sm.AG ?_ | refine Sm.BL ?_ | refine Sm.BM ?_ | refine Sm.BK ?_)
local macro_rules | `(tactic| walk_at "go") => `(tactic| (repeat (first | walk_at "one" | with_reducible refine Sm.tj ?_ | with_reducible refine Sm.xc ?_)); (try dsimp only))
local macro_rules | `(tactic| walk_at "run") => `(tactic| (repeat (first | walk_at "one" | with_reducible refine Sm.tj ?_ | with_reducible refine Sm.xc ?_ | with_reducible refine Sm.zp ?_ | with_reducible refine Sm.zq ?_ | with_reducible refine Sm.w_add ?_ | with_reducible refine Sm.w_sub ?_ | with_reducible refine Sm.w_lt ?_ | with_reducible refine Sm.A0 ?_ | with_reducible refine Sm.A1 ?_ | with_reducible refine Sm.A3 ?_ | with_reducible refine Sm.zA ?_ | with_reducible refine Sm.zt ?_ | with_reducible refine Sm.zz ?_ | with_reducible refine Sm.zr ?_ | with_reducible refine Sm.zw ?_ | with_reducible refine Sm.zv ?_ | with_reducible refine Sm.zu ?_ | with_reducible refine Sm.xn ?_ | with_reducible refine Sm.xo ?_ | with_reducible refine Sm.oV ?_)); (try dsimp only))
namespace Mi
open PySem Sm L2
theorem xf {α:Type} {ws:W} {g:GM} {c:TM} {m:MK α} {Q:DS×MH×α→Prop} {x:D} {r:List D} {δ:DS} {h:MH} {a:α} (hc:chk ws h=true) (hh:Rn (g x δ h) fun q=>Rn (c q.1 q.2) fun t=>if t.1=true then Rn (m q.1 t.2 a) fun z=>Rn (bG ws g c m r z.1 z.2.1 z.2.2) Q else Rn (bG ws g c m r q.1 t.2 a) Q):Rn (bG ws g c m (x::r) δ h a) Q:=by
 obtain ⟨q,e1,t,e2,k⟩:=hh
 unfold bG
 rw [if_pos hc,e1]
 show Rn ((c q.1 q.2).bind _) Q
 rw [e2]
 show Rn (if t.1=true then _ else _) Q
 by_cases z:t.1=true
 ·rw [if_pos z] at k ⊢
  exact az k
 ·rw [if_neg z] at k ⊢
  exact k
theorem z9 {α:Type} {ws:W} {g:GM} {c:TM} {m:MK α} {Q:DS×MH×α→Prop} {δ:DS} {h:MH} {a:α} (hc:chk ws h=true) (q:Q (δ,h,a)):Rn (bG ws g c m [] δ h a) Q:=⟨_,by unfold bG;rw [if_pos hc],q⟩
def ao (f:Wy.Fact Str):D:=.tup [.str f.1,.str f.2.1,.int f.2.2]
def iJ (a:List Str) (f:Wy.Fact Str):List Str:=cK (cK a f.1) f.2.1
def wordsOf (fs:List (Wy.Fact Str)):List Str:=fs.foldl iJ []
theorem jS (a:List Str) (x:Str):(cK a x).length≤a.length+1:=by
 unfold cK
 split
 ·omega
 ·rw [List.length_append];simp
theorem fg:∀(fs:List (Wy.Fact Str)) (a:List Str),(fs.foldl iJ a).length≤a.length+2*fs.length
 | [],a=>Nat.le_refl _
 | f::r,a=>by
  rw [List.foldl_cons,List.length_cons]
  have h1:=fg r (iJ a f)
  have h2:=jS (cK a f.1) f.2.1
  have h3:=jS a f.1
  unfold iJ at*
  omega
theorem iT {fs:List (Wy.Fact Str)} {h:MH} (hl:(wordsOf fs).length < 64) (hb:fs.length≤1000):bx [.tup (fs.map ao)] h=some (.lv ((bX (wordsOf fs)).map D.str),h):=by
 have e:Rn (bx [.tup (fs.map ao)] h) fun p=>p=(.lv ((bX (wordsOf fs)).map D.str),h):=by
  refine cO ?_
  walk_at "go"
  refine vC (rv rfl ?_)
  refine iO (fs.map ao) (fun r δ h' a=>∃dn rs d0 d1 d2 d3,fs=dn++rs∧r=rs.map ao∧h'=h∧a=wordsOf dn∧δ=[d0,d1,d2,d3]) _ h [] ⟨[],fs,_,_,_,_,rfl,rfl,rfl,rfl,rfl⟩ ?_ ?_
  ·rintro x r δ h' a ⟨dn,rs,d0,d1,d2,d3,e1,e2,rfl,rfl,rfl⟩
   cases rs with
   | nil=>cases e2
   | cons f rs=>
    rw [List.map_cons] at e2
    cases e2
    refine ⟨rfl,rv rfl (rv rfl ?_)⟩
    refine rL (vw (rv rfl ?_))
    have hlen:=fg dn []
    have hfs:dn.length < fs.length:=by rw [e1];simp
    have hsb:scanBound=4096:=rfl
    have h3:=jS (wordsOf dn) f.1
    have hw:(wordsOf dn).length≤2*dn.length:=by unfold wordsOf;simpa using hlen
    refine xf rfl (rv rfl (rv rfl (rL (z6 (rv rfl ⟨_,rfl,by omega,?_⟩)))))
    refine xf rfl (rv rfl (rv rfl (rL (z6 (rv rfl ⟨_,rfl,by show (cK (wordsOf dn) f.1).length+1 < scanBound;omega,?_⟩)))))
    refine z9 rfl ⟨dn++[f],rs,_,_,_,_,by rw [e1];simp,rfl,rfl,?_,rfl⟩
    unfold wordsOf
    rw [List.foldl_append]
    rfl
  ·rintro δ h' a ⟨dn,rs,d0,d1,d2,d3,e1,e2,rfl,rfl,rfl⟩
   cases rs with
   | cons f rs=>cases e2
   | nil=>
    rw [List.append_nil] at e1
    subst e1
    refine ⟨rfl,hl,?_⟩
    walk_at "go"
 obtain ⟨p,ep,rfl⟩:=e
 exact ep
end Mi
namespace Mi
open PySem Sm L2
structure DR (ws:List Str) (kvs:List (Key×D)) (f:Str→Option D):Prop where
 val:∀w,bc kvs (.inr w)=f w
 nd:(kvs.map (·.1)).Nodup
 ks:∀k∈kvs.map (·.1),∃w,k=.inr w∧w∈ws
theorem nA {kvs:List (Key×D)} {k:Key} {v:D} (h:k∈kvs.map (·.1)):putD kvs k v=kvs.map (fun kv=>if kv.1=k then (kv.1,v) else kv):=by
 unfold putD
 rw [if_pos]
 obtain ⟨p,hp,e⟩:=List.mem_map.mp h
 exact List.any_eq_true.mpr ⟨p,hp,decide_eq_true e⟩
theorem gY {kvs:List (Key×D)} {k:Key} {v:D}:(k∈kvs.map (·.1)∧(putD kvs k v).map (·.1)=kvs.map (·.1))∨(k∉kvs.map (·.1)∧(putD kvs k v).map (·.1)=kvs.map (·.1)++[k]):=by
 by_cases h:k∈kvs.map (·.1)
 ·refine .inl ⟨h,?_⟩
  rw [nA h,List.map_map]
  refine List.map_congr_left fun p _=>?_
  show (if p.1=k then (p.1,v) else p).1=p.1
  split <;> rfl
 ·refine .inr ⟨h,?_⟩
  rw [jg h,List.map_append];rfl
theorem cL {a j:Key} {b:D} {r:List (Key×D)}:bc ((a,b)::r) j=if a=j then some b else bc r j:=by
 by_cases h:a=j
 ·rw [if_pos h];simp [bc,h]
 ·rw [if_neg h];simp only [bc,List.find?_cons,h,decide_false]
theorem iY {k j:Key} {v:D} (hj:j≠k):∀l:List (Key×D),bc (l.map (fun kv=>if kv.1=k then (kv.1,v) else kv)) j=bc l j
 | []=>rfl
 | (a,b)::r=>by
  rw [List.map_cons]
  by_cases ha:a=k
  ·rw [if_pos ha,cL,cL,if_neg (fun z=>hj (z.symm.trans ha)),if_neg (fun z=>hj (z.symm.trans ha))]
   exact iY hj r
  ·rw [if_neg ha,cL,cL,iY hj r]
theorem valD_map' {k:Key} {v:D}:∀l:List (Key×D),k∈l.map (·.1)→bc (l.map (fun kv=>if kv.1=k then (kv.1,v) else kv)) k=some v
 | [],h=>(nomatch h)
 | (a,b)::r,h=>by
  rw [List.map_cons]
  by_cases ha:a=k
  ·rw [if_pos ha,cL,if_pos ha]
  ·rw [if_neg ha,cL,if_neg ha]
   exact valD_map' r ((List.mem_cons.mp h).resolve_left fun e=>ha e.symm)
theorem si {kvs:List (Key×D)} {k j:Key} {v:D}:bc (putD kvs k v) j=if j=k then some v else bc kvs j:=by
 by_cases h:k∈kvs.map (·.1)
 ·rw [nA h]
  by_cases hj:j=k
  ·subst hj;rw [if_pos rfl];exact valD_map' kvs h
  ·rw [if_neg hj];exact iY hj kvs
 ·rw [jg h]
  by_cases hj:j=k
  ·subst hj
   rw [if_pos rfl]
   unfold bc
   rw [List.find?_append]
   have:kvs.find? (fun kv=>decide (kv.1=j))=none:=by
    rw [List.find?_eq_none]
    intro p hp e
    exact h (List.mem_map.mpr ⟨p,hp,of_decide_eq_true e⟩)
   rw [this]
   simp
  ·rw [if_neg hj]
   unfold bc
   rw [List.find?_append]
   cases kvs.find? (fun kv=>decide (kv.1=j)) with
   | some p=>rfl
   | none=>
    simp [Ne.symm hj]
theorem DR.put {ws:List Str} {kvs:List (Key×D)} {f:Str→Option D} (R:DR ws kvs f) {w:Str} (hw:w∈ws) (d:D):DR ws (putD kvs (.inr w) d) (Wy.put f w (some d)):=by
 refine ⟨fun x=>?_,?_,fun k hk=>?_⟩
 ·rw [si,R.val]
  unfold Wy.put
  by_cases e:x=w
  ·subst e;rw [if_pos rfl,if_pos rfl]
  ·rw [if_neg e,if_neg fun z=>e (Sum.inr.inj z)]
 ·rcases gY (kvs:=kvs) (k:=.inr w) (v:=d) with ⟨h,e⟩ | ⟨h,e⟩
  ·rw [e];exact R.nd
  ·rw [e,List.nodup_append]
   exact ⟨R.nd,by simp,fun a ha b hb e=>h (by rw [←List.mem_singleton.mp hb,←e];exact ha)⟩
 ·rcases gY (kvs:=kvs) (k:=.inr w) (v:=d) with ⟨h,e⟩ | ⟨h,e⟩
  ·rw [e] at hk;exact R.ks k hk
  ·rw [e] at hk
   rcases List.mem_append.mp hk with h | h
   ·exact R.ks k h
   ·exact ⟨w,List.mem_singleton.mp h,hw⟩
theorem DR.nil (ws:List Str):DR ws [] fun _=>none:=⟨fun _=>rfl,List.nodup_nil,fun k hk=>(nomatch hk)⟩
theorem DR.len {ws:List Str} {kvs:List (Key×D)} {f:Str→Option D} (R:DR ws kvs f):kvs.length≤ws.length:=by
 have:=Wy.dy (kvs.map (·.1)) (ws.map Sum.inr) R.nd fun x hx=>by
  obtain ⟨w,rfl,m⟩:=R.ks x hx
  exact List.mem_map.mpr ⟨w,m,rfl⟩
 rwa [List.length_map,List.length_map] at this
theorem DR.dom {ws:List Str} {kvs:List (Key×D)} {f:Str→Option D} (R:DR ws kvs f):∃ds:List Str,ds.length=kvs.length∧∀w,(f w).isSome=true→w∈ds:=by
 refine ⟨kvs.filterMap fun p=>match p.1 with | .inr w=>some w | .inl _=>none,?_,fun w h=>?_⟩
 ·have:∀l:List (Key×D),(∀k∈l.map (·.1),∃w,k=.inr w∧w∈ws)→(l.filterMap fun p=>match p.1 with | .inr w=>some w | .inl _=>none).length=l.length:=by
   intro l
   induction l with
   | nil=>intro _;rfl
   | cons p r ih=>
    intro hk
    obtain ⟨w,e,_⟩:=hk p.1 (by simp)
    have:=ih fun k hk'=>hk k (by rw [List.map_cons];exact List.mem_cons_of_mem _ hk')
    rw [List.filterMap_cons,e]
    dsimp only
    rw [List.length_cons,List.length_cons,this]
  exact this kvs R.ks
 ·rw [←R.val w] at h
  obtain ⟨v,hv⟩:=Option.isSome_iff_exists.mp h
  exact List.mem_filterMap.mpr ⟨_,sj hv,rfl⟩
theorem qp {d:D} {kvs:List (L2.Key×D)} {h:MH} {x:Str} (hd:bp d h=some kvs):fIn (.str x) d h=some (.bl (bc kvs (.inr x)).isSome,h):=by
 simp only [fIn,inD,hd,fy,Option.map_some]
theorem at0 (H:MH) (a b:MO):(H++[a,b])[H.length]?=some a:=by simp
theorem at1 (H:MH) (a b:MO):(H++[a,b])[H.length+1]?=some b:=by simp
theorem vh (H:MH) (a b c:MO):(H++[a,b]).set H.length c=H++[c,b]:=by simp
theorem zM (H:MH) (a b c:MO):(H++[a,b]).set (H.length+1) c=H++[a,c]:=by simp
end Mi
namespace Mi
open PySem Sm L2
structure Rel (ws wl:List Str) (ks kl:List (Key×D)) (s:Wy.S Str):Prop where
 su:DR ws ks fun w=>(s.sums w).map D.int
 la:DR wl kl fun w=>(s.last w).map fun (i:Nat)=>D.int i
theorem DR.congr {ws:List Str} {kvs:List (Key×D)} {f g:Str→Option D} (R:DR ws kvs f) (e:∀w,f w=g w):DR ws kvs g:=⟨fun w=>(R.val w).trans (e w),R.nd,R.ks⟩
theorem lZ {α β:Type} {f:Str→Option α} {g:α→β} {w x:Str} {v:α}:Wy.put (fun w=>(f w).map g) w (some (g v)) x=(Wy.put f w (some v) x).map g:=by
 unfold Wy.put
 split <;> rfl
def uZ (s0 s:Wy.S Str) (late:D):Prop:=(late=.non∧s.clock=s0.clock)∨∃w,late=.str w∧s0.clock < s.clock∧s.stamp w=s.clock
theorem gX {i:Nat} {p w:Str} {m u:Int} {s:Wy.S Str} (h1:s.sums p=some u) (h2:Wy.less (u+m) (s.sums w)=true):
  Wy.bP i (p,w,m) s={sums:=Wy.put s.sums w (some (u+m)),last:=Wy.put s.last w (some i),stamp:=Wy.put s.stamp w (s.clock+1),clock:=s.clock+1}:=by
 unfold Wy.bP
 dsimp only
 rw [h1]
 dsimp only
 rw [if_pos h2]
theorem qZ {i:Nat} {p w:Str} {m u:Int} {s:Wy.S Str} (h1:s.sums p=some u) (h2:¬Wy.less (u+m) (s.sums w)=true):Wy.bP i (p,w,m) s=s:=by
 unfold Wy.bP
 dsimp only
 rw [h1]
 dsimp only
 rw [if_neg h2]
theorem oP {i:Nat} {p w:Str} {m:Int} {s:Wy.S Str} (h1:s.sums p=none):Wy.bP i (p,w,m) s=s:=by
 unfold Wy.bP
 dsimp only
 rw [h1]
theorem Rel.put {ws wl:List Str} {ks kl:List (Key×D)} {s:Wy.S Str} {i:Nat} {p w:Str} {m u:Int} (R:Rel ws wl ks kl s) (hw:w∈ws) (hl:w∈wl) (h1:s.sums p=some u) (h2:Wy.less (u+m) (s.sums w)=true):
  Rel ws wl (putD ks (.inr w) (.int (u+m))) (putD kl (.inr w) (.int (i:Int))) (Wy.bP i (p,w,m) s):=by
 rw [gX h1 h2]
 exact ⟨(R.su.put hw _).congr fun x=>lZ,(R.la.put hl _).congr fun x=>lZ (g:=fun (i:Nat)=>D.int i)⟩
theorem bI:∀(fs:List (Wy.Fact Str)) (a:List Str),(∀w∈a,w∈fs.foldl iJ a)∧∀f∈fs,f.1∈fs.foldl iJ a∧f.2.1∈fs.foldl iJ a
 | [],a=>⟨fun _ h=>h,fun _ h=>(nomatch h)⟩
 | f::r,a=>by
  obtain ⟨h1,h2⟩:=bI r (iJ a f)
  have t:∀(a:List Str) (x:Str),(∀w∈a,w∈cK a x)∧x∈cK a x:=by
   intro a x
   unfold cK
   split
   ·rename_i h
    exact ⟨fun _ h=>h,bT.mp h⟩
   ·exact ⟨fun _ h=>List.mem_append_left _ h,by simp⟩
  have t1:=t a f.1
  have t2:=t (cK a f.1) f.2.1
  rw [List.foldl_cons]
  refine ⟨fun w hw=>h1 w (t2.1 w (t1.1 w hw)),fun g hg=>?_⟩
  rcases List.mem_cons.mp hg with rfl | hg
  ·exact ⟨h1 _ (t2.1 _ t1.2),h1 _ t2.2⟩
  ·exact h2 g hg
theorem sA {fs:List (Wy.Fact Str)} {H:MH} {ws:List Str} {d0 d1 d5 e6 e7 e8 e9:Option D} {ks kl:List (Key×D)} {s0:Wy.S Str} {Q:SQ} {b:SM} (hl:fs.length≤31) (hs:∀f∈fs,f.2.1∈ws) (hw:ws.length≤1000) (R:Rel ws (wordsOf fs) ks kl s0)
  (hb:b=(sIf (mW (bq (eOp fIn (ae 7) (ae 2))) (tOr (bq (eOp di (ae 8) (ae 2))) (bq (eOp fLt (eOp aU (eOp fIx (ae 2) (ae 7)) (ae 9)) (eOp fIx (ae 2) (ae 8)))))) (aF (eW (eOp aU (eOp fIx (ae 2) (ae 7)) (ae 9)) (fz (ae 2) (ae 8)))
  (aF (eW (ae 6) (fz (ae 3) (ae 8)))
  (aW 4 (ae 8)))) gj))
  (q:∀ks' kl' late d6 d7 d8 d9,Rel ws (wordsOf fs) ks' kl' (Wy.turn fs 0 s0)→uZ s0 (Wy.turn fs 0 s0) late→Q (.nx,[d0,d1,some (.ob H.length),some (.ob (H.length+1)),some late,d5,d6,d7,d8,d9],H++[.dct ks',.dct kl'])):
  Rn (eF [] (gT 2 (aD (gN 6) (aD (gT 3 (aD (gN 7) (aD (gN 8) (aD (gN 9) cY)))) cY))) b (dE 0 (fs.map ao)) [d0,d1,some (.ob H.length),some (.ob (H.length+1)),some .non,d5,e6,e7,e8,e9] (H++[.dct ks,.dct kl])) Q:=by
 subst hb
 have hlen:(dE 0 (fs.map ao)).length=fs.length:=by
  have:∀(k:Nat) (l:List D),(dE k l).length=l.length:=fun k l=>by
   induction l generalizing k with
   | nil=>rfl
   | cons x r ih=>show (dE (k+1) r).length+1=_;rw [ih];rfl
  rw [this,List.length_map]
 refine bW (fun i δ h=>∃s ks kl late d6 d7 d8 d9,δ=[d0,d1,some (.ob H.length),some (.ob (H.length+1)),some late,d5,d6,d7,d8,d9]∧h=H++[.dct ks,.dct kl]∧Rel ws (wordsOf fs) ks kl s∧Wy.turn (fs.drop i) i s=Wy.turn fs 0 s0∧uZ s0 s late)
  ⟨s0,ks,kl,.non,_,_,_,_,rfl,rfl,R,rfl,.inl ⟨rfl,rfl⟩⟩ (fun _ _ _ _ _=>rfl) ?_ ?_
 ·rintro i x δ h hx ⟨s,ks,kl,late,d6,d7,d8,d9,rfl,rfl,R,et,hL⟩
  rw [hY,List.getElem?_map] at hx
  cases hf:fs[i]? with
  | none=>rw [hf] at hx;cases hx
  | some f=>
   rw [hf] at hx
   obtain ⟨p,w,m⟩:=f
   cases hx
   have hm:=List.mem_of_getElem? hf
   have hww:=hs _ hm
   have hwl:=((bI fs []).2 _ hm).2
   have hd:fs.drop i=(p,w,m)::fs.drop (i+1):=by
    have hi:=(List.getElem?_eq_some_iff.mp hf)
    obtain ⟨hi,e⟩:=hi
    rw [List.drop_eq_getElem_cons hi,e]
   rw [hd] at et
   simp only [ao]
   rw [show (0+i:Nat)=i from Nat.zero_add i]
   walk_at "go"
   refine rv (qp (bg (at0 _ _ _))) ⟨_,rfl,fun c1=>?_,fun c1=>?_⟩
   ·rw [R.su.val] at c1
    have c1:((s.sums p).map D.int).isSome=true:=c1
    cases hu:s.sums p with
    | none=>rw [hu] at c1;cases c1
    | some u=>
     have hv:bc ks (.inr p)=some (.int u):=by rw [R.su.val];show (s.sums p).map D.int=_;rw [hu];rfl
     have hlt:ks.length < sizeLine:=by have:=R.su.len;rw [show sizeLine=16777216 from rfl];omega
     have hlt':kl.length < sizeLine:=by
      have:=R.la.len
      have h2:=fg fs []
      have h3:(wordsOf fs).length=(fs.foldl iJ []).length:=rfl
      rw [show sizeLine=16777216 from rfl]
      simp at h2
      omega
     have hset:∀(hless:Wy.less (u+m) (s.sums w)=true),Rn (aF (eW (eOp aU (eOp fIx (ae 2) (ae 7)) (ae 9)) (fz (ae 2) (ae 8))) (aF (eW (ae 6) (fz (ae 3) (ae 8))) (aW 4 (ae 8))) [d0,d1,some (.ob H.length),some (.ob (H.length+1)),some late,d5,some (.int (i:Int)),some (.str p),some (.str w),some (.int m)] (H++[.dct ks,.dct kl]))
       (kS (fun δ h=>∃s ks kl late d6 d7 d8 d9,δ=[d0,d1,some (.ob H.length),some (.ob (H.length+1)),some late,d5,d6,d7,d8,d9]∧h=H++[.dct ks,.dct kl]∧Rel ws (wordsOf fs) ks kl s∧Wy.turn (fs.drop (i+1)) (i+1) s=Wy.turn fs 0 s0∧uZ s0 s late) Q):=by
      intro hless
      walk_at "go"
      refine rv (cz (bg (at0 _ _ _)) hv) ?_
      walk_at "go"
      refine rv rfl ?_
      walk_at "go"
      refine rv (jC (at0 _ _ _) hlt) ?_
      rw [vh]
      walk_at "go"
      refine rv (jC (at1 _ _ _) hlt') ?_
      rw [zM]
      walk_at "go"
      refine ⟨Wy.bP i (p,w,m) s,_,_,_,_,_,_,_,rfl,rfl,R.put hww hwl hu hless,et,.inr ⟨w,rfl,?_,?_⟩⟩
      ·rw [gX hu hless]
       have:s0.clock≤s.clock:=by
        rcases hL with ⟨_,e⟩ | ⟨_,_,l,_⟩ <;> omega
       show s0.clock < s.clock+1
       omega
      ·rw [gX hu hless];exact Wy.aB
     walk_at "go"
     refine rv (jD (bg (at0 _ _ _))) ⟨_,rfl,fun c2=>?_,fun c2=>?_⟩
     ·refine (fun r=>r) ⟨fun _=>?_,fun z=>(nomatch z)⟩
      refine hset ?_
      rw [R.su.val] at c2
      have c2:(!((s.sums w).map D.int).isSome)=true:=c2
      cases hv:s.sums w with
      | none=>rfl
      | some v=>rw [hv] at c2;cases c2
     ·rw [R.su.val] at c2
      have c2:(!((s.sums w).map D.int).isSome)=false:=c2
      cases hvw:s.sums w with
      | none=>rw [hvw] at c2;cases c2
      | some v=>
       have hv2:bc ks (.inr w)=some (.int v):=by rw [R.su.val];show (s.sums w).map D.int=_;rw [hvw];rfl
       walk_at "go"
       refine rv (cz (bg (at0 _ _ _)) hv) ?_
       walk_at "go"
       refine rv rfl ?_
       walk_at "go"
       refine rv (cz (bg (at0 _ _ _)) hv2) (rv rfl ⟨_,rfl,fun c3=>?_,fun c3=>?_⟩)
       ·refine hset ?_
        rw [hvw]
        exact c3
       ·walk_at "go"
        refine ⟨s,_,_,_,_,_,_,_,rfl,rfl,R,?_,hL⟩
        rw [←et]
        show _=Wy.turn (fs.drop (i+1)) (i+1) (Wy.bP i (p,w,m) s)
        rw [qZ hu]
        rw [hvw]
        intro z
        rw [show Wy.less (u+m) (some v)=decide (u+m < v) from rfl] at z
        dsimp only at c3
        rw [z] at c3
        cases c3
   ·refine ⟨fun z=>(nomatch z),fun _=>?_⟩
    walk_at "go"
    refine ⟨s,_,_,_,_,_,_,_,rfl,rfl,R,?_,hL⟩
    rw [←et]
    show _=Wy.turn (fs.drop (i+1)) (i+1) (Wy.bP i (p,w,m) s)
    rw [R.su.val] at c1
    have c1:((s.sums p).map D.int).isSome=false:=c1
    rw [oP]
    cases hu:s.sums p with
    | none=>rfl
    | some u=>rw [hu] at c1;cases c1
 ·rintro δ h ⟨s,ks,kl,late,d6,d7,d8,d9,rfl,rfl,R,et,hL⟩
  rw [hlen,List.drop_length] at et
  have et:s=Wy.turn fs 0 s0:=et
  subst et
  exact q _ _ _ _ _ _ _ R hL
end Mi
namespace Mi
open PySem Sm L2
theorem fh {fs:List (Wy.Fact Str)} (hl:fs.length≤31):(wordsOf fs).length≤62:=by
 have h2:=fg fs []
 have h3:(wordsOf fs).length=(fs.foldl iJ []).length:=rfl
 simp at h2
 omega
structure Ends (fs:List (Wy.Fact Str)) (a0:Str→Option Int) (t:Nat) (late:D):Prop where
 how:(late=.non∧(Wy.runs fs (Wy.st0 a0) (t+1)).clock=(Wy.runs fs (Wy.st0 a0) t).clock)∨∃w,late=.str w∧t=(wordsOf fs).length∧(Wy.runs fs (Wy.st0 a0) t).clock < (Wy.runs fs (Wy.st0 a0) (t+1)).stamp w
theorem il {fs:List (Wy.Fact Str)} {kv0:List (Key×D)} {a0:Str→Option Int} {H:MH} {ws:List Str} {d0:D} (hl:fs.length≤31) (hd0:bp d0 H=some kv0) (hs:∀f∈fs,f.2.1∈ws) (hw:ws.length≤1000) (R0:DR ws kv0 fun w=>(a0 w).map D.int):
  ∃t ks kl late,cD [.tup (fs.map ao),d0] H=some (.tup [.ob H.length,.ob (H.length+1),late],H++[.dct ks,.dct kl])∧Rel ws (wordsOf fs) ks kl (Wy.runs fs (Wy.st0 a0) (t+1))∧Ends fs a0 t late:=by
 have e:Rn (cD [.tup (fs.map ao),d0] H) fun p=>∃t ks kl late,p=(.tup [.ob H.length,.ob (H.length+1),late],H++[.dct ks,.dct kl])∧Rel ws (wordsOf fs) ks kl (Wy.runs fs (Wy.st0 a0) (t+1))∧Ends fs a0 t late:=by
  refine cO ?_
  walk_at "go"
  refine rv (a:=(.ob H.length,H++[.dct kv0])) (by show (bp d0 H).map _=_;rw [hd0];rfl) ?_
  walk_at "go"
  rw [show (H++[MO.dct kv0])++[MO.dct []]=H++[.dct kv0,.dct []] by simp,show (H++[MO.dct kv0]).length=H.length+1 by simp]
  refine fN ?_
  walk_at "go"
  have hW:=fh hl
  refine rv (iT (by omega) (by omega)) ?_
  walk_at "go"
  refine rv rfl ?_
  walk_at "go"
  refine rv rfl ?_
  have hn:(((bX (wordsOf fs)).map D.str).length:Int)+1=(((wordsOf fs).length+1:Nat):Int):=by
   rw [List.length_map,(br _).length_eq];rfl
  walk_at "go"
  refine ⟨(((wordsOf fs).length+1:Nat):Int),by rw [←hn],by omega,by omega,?_⟩
  rw [Int.toNat_natCast]
  refine bW (fun i δ h=>∃ks kl late d5 d6 d7 d8 d9,δ=[some (.tup (fs.map ao)),some d0,some (.ob H.length),some (.ob (H.length+1)),some late,d5,d6,d7,d8,d9]∧h=H++[.dct ks,.dct kl]∧Rel ws (wordsOf fs) ks kl (Wy.runs fs (Wy.st0 a0) i)∧∀t,i=t+1→∃w,late=.str w∧(Wy.runs fs (Wy.st0 a0) t).clock < (Wy.runs fs (Wy.st0 a0) (t+1)).stamp w)
   ⟨kv0,[],.non,_,_,_,_,_,rfl,rfl,⟨R0,(DR.nil _).congr fun _=>rfl⟩,fun t z=>(nomatch z)⟩ (fun _ _ _ _ _=>rfl) ?_ ?_
  ·rintro i x δ h hx ⟨ks,kl,late,d5,d6,d7,d8,d9,rfl,rfl,R,hL⟩
   rw [List.getElem?_map] at hx
   cases hr:(List.range ((wordsOf fs).length+1))[i]? with
   | none=>rw [hr] at hx;cases hx
   | some k=>
    rw [hr] at hx
    cases hx
    walk_at "go"
    refine vA ?_
    walk_at "go"
    refine ⟨_,_,_,rfl,rfl,?_⟩
    refine sA (ws:=ws) (s0:=Wy.runs fs (Wy.st0 a0) i) hl hs hw R rfl ?_
    intro ks' kl' late' d6 d7 d8 d9 R' hL'
    walk_at "go"
    refine rv rfl ⟨_,rfl,fun c=>?_,fun c=>?_⟩
    ·rcases hL' with ⟨rfl,ec⟩ | ⟨w,rfl,_⟩
     ·walk_at "go"
      refine rv rfl ?_
      walk_at "go"
      exact ⟨i,ks',kl',.non,rfl,R',⟨.inl ⟨rfl,ec⟩⟩⟩
     ·cases c
    ·rcases hL' with ⟨rfl,ec⟩ | ⟨w,rfl,h1,h2⟩
     ·cases c
     ·walk_at "go"
      refine ⟨ks',kl',.str w,_,_,_,_,_,rfl,rfl,R',fun t ht=>?_⟩
      cases ht
      exact ⟨w,rfl,by show (Wy.runs fs (Wy.st0 a0) i).clock < (Wy.turn fs 0 (Wy.runs fs (Wy.st0 a0) i)).stamp w;rw [h2];exact h1⟩
  ·rintro δ h ⟨ks,kl,late,d5,d6,d7,d8,d9,rfl,rfl,R,hL⟩
   rw [List.length_map,List.length_range] at R hL
   obtain ⟨w,rfl,hw⟩:=hL _ rfl
   walk_at "go"
   refine rv rfl ?_
   walk_at "go"
   exact ⟨_,ks,kl,_,rfl,R,⟨.inr ⟨w,rfl,rfl,hw⟩⟩⟩
 obtain ⟨p,ep,t,ks,kl,late,rfl,r⟩:=e
 exact ⟨t,ks,kl,late,ep,r⟩
end Mi
namespace Mi
open PySem Sm L2
theorem kJ {len:Nat} {b:SM} {ds:List D} {h:MH} {Q:D×MH→Prop} (r:Rn (b (entry len ds) h) (vk fun p=>Rn (leave h p.1 p.2) Q)):Rn (mkL len b ds h) Q:=by
 obtain ⟨p,e,q⟩:=cO r
 obtain ⟨z,e2,k⟩:=q
 refine ⟨z,?_,k⟩
 have e:((b (entry len ds) h).bind vm)=some p:=e
 show ((b (entry len ds) h).bind vm).bind _=_
 rw [e]
 exact e2
theorem dz {H g:MH} {d:D} (h1:∀n,d≠.ob n) (h2:clD H.length d=true):leave H d (H++g)=some (d,H):=by
 have h3:lG H.length (H++g) d=d:=by
  cases d with
  | ob n=>exact absurd rfl (h1 n)
  | _=>rfl
 unfold leave
 rw [h3,List.take_append_of_le_length (Nat.le_refl _),List.take_length,h2,ie]
 rfl
theorem n6 (n:Nat):∀js:List Nat,clL n (js.map fun (j:Nat)=>D.int j)=true
 | []=>rfl
 | j::r=>by rw [List.map_cons];show (clD n (.int _)&&clL n _)=true;rw [n6 n r];rfl
theorem fT {H g:MH} {js:List Nat}:leave H (.tup (js.map fun (j:Nat)=>D.int j)) (H++g)=some (.tup (js.map fun (j:Nat)=>D.int j),H):=dz (fun n z=>(nomatch z)) (by show clL _ _=true;exact n6 _ js)
inductive Trail (fs:List (Wy.Fact Str)) (s:Wy.S Str) (x:Str):Str→List Nat→Prop where
 | one {w:Str} {i:Nat} {m:Int}:s.last w=some i→fs[i]?=some (x,w,m)→Trail fs s x w [i]
 | cons {w p:Str} {i:Nat} {m:Int} {js:List Nat}:s.last w=some i→fs[i]?=some (p,w,m)→Trail fs s x p js→Trail fs s x w (i::js)
theorem gA {xs:List D} {i:Nat} {d:D} {h:MH} (e:xs[i]?=some d):fIx (.tup xs) (.int (i:Int)) h=some (d,h):=by
 have q:atI xs (i:Int)=some d:=iR e
 simp only [fIx,bp,bR,Option.bind_some,q,Option.map_some]
theorem iU {c:TM} {b:SM} {n:Nat} {δ:DS} {h:MH} {Q:SQ} (r:Rn (c δ h) fun p=>(p.1=true→Rn (b δ p.2) fun z=>match z.1 with
   | .nx=>Rn (cM c b n z.2.1 z.2.2) Q
   | .ct=>Rn (cM c b n z.2.1 z.2.2) Q
   | .bk=>Q (.nx,z.2.1,z.2.2)
   | .rt d=>Q (.rt d,z.2.1,z.2.2))∧(p.1=false→Q (.nx,δ,p.2))):Rn (cM c b (n+1) δ h) Q:=by
 obtain ⟨p,e,q1,q2⟩:=r
 show Rn ((c δ h).bind _) Q
 rw [e]
 show Rn (if p.1=true then _ else _) Q
 cases hp:p.1 with
 | false=>rw [if_neg (by simp)];exact ⟨_,rfl,q2 hp⟩
 | true=>
  rw [if_pos rfl]
  obtain ⟨⟨f,δ',h'⟩,e2,q⟩:=q1 hp
  rw [e2]
  cases f with
  | nx=>exact q
  | ct=>exact q
  | bk=>exact ⟨_,rfl,q⟩
  | rt d=>exact ⟨_,rfl,q⟩
theorem tw {isT:D→MH→Bool} {f:MFn} {o:EM} {m:AM} {δ:DS} {h:MH} {Q:D×MH→Prop} (r:Rn (o δ h) fun p=>isT p.1 p.2=true∧Rn (m δ p.2) fun q=>Rn (f p.1 q.1 q.2) Q):Rn (eM isT f o m δ h) Q:=
 az (r.imp fun p ⟨e,r⟩=>by rw [if_pos e];exact az r)
theorem jx {h:MH} {n:Nat} {xs:List D} (e:h[n]?=some (.lst xs)):cP (.ob n) h=true:=by unfold cP g6;dsimp only;rw [e];rfl
theorem jr {h:MH} {n:Nat} {xs:List D} {y:D} (e:h[n]?=some (.lst xs)) (hl:xs.length < sizeLine):cv (.ob n) [y] h=some (.non,h.set n (.lst (xs++[y]))):=by unfold cv;dsimp only;rw [e];dsimp only;rw [if_pos hl]
theorem vg (H:MH) (a b:MO):(H++[a]).set H.length b=H++[b]:=by simp
theorem lN {h:MH} {n:Nat} {xs:List D} (e:h[n]?=some (.lst xs)):bR (.ob n) h=some (xs,[(n,.lst xs)]):=by unfold bR;dsimp only;rw [e]
theorem jQ {fs:List (Wy.Fact Str)} {s:Wy.S Str} {y p:Str} {i:Nat} {m:Int} (h1:s.last y=some i) (h2:fs[i]?=some (p,y,m)):Wy.back fs s y=some p:=by
 unfold Wy.back;rw [h1];show (fs[i]?).map _=_;rw [h2];rfl
theorem sf {fs:List (Wy.Fact Str)} {s:Wy.S Str} {kl:List (Key×D)} {wl:List Str} {H:MH} {n:Nat} {x w:Str} (I:Wy.IB fs s) (R:DR wl kl fun w=>(s.last w).map fun (i:Nat)=>D.int i) (hn:H[n]?=some (.dct kl)) {Q:SQ}:
  ∀(k fuel:Nat) (js:List Nat) (y:Str) (i:Nat),k < fuel→js.length+k < 1000→s.last y=some i→Wy.aO fs s (k+1) y=some x→
  (∀js',Trail fs s x y js'→js'.length≤k+1→Q (.nx,[some (.tup (fs.map ao)),some (.ob n),some (.str w),some (.str x),some (.ob H.length)],H++[.lst ((js++js').map fun (j:Nat)=>D.int j)]))→
  Rn (cM (bq (eOp gz (eOp fIx (eOp fIx (ae 0) (eOp fIx (ae 4) (eUn lD (eK (.int 1))))) (eK (.int 0))) (ae 3))) (gk (eM cP cv (ae 4) (af (eOp fIx (ae 1) (eOp fIx (eOp fIx (ae 0) (eOp fIx (ae 4) (eUn lD (eK (.int 1))))) (eK (.int 0)))) av))) fuel
   [some (.tup (fs.map ao)),some (.ob n),some (.str w),some (.str x),some (.ob H.length)] (H++[.lst ((js++[i]).map fun (j:Nat)=>D.int j)])) Q:=by
 intro k
 induction k with
 | zero=>
  intro fuel js y i hf hj hl hb q
  obtain ⟨p,m,u,v,e1,_⟩:=I.pred y i hl
  have hp:p=x:=by
   have:=(jQ hl e1).symm.trans hb
   cases this;rfl
  subst hp
  cases fuel with
  | zero=>omega
  | succ fuel=>
  have hat:(H++[MO.lst ((js++[i]).map fun (j:Nat)=>D.int j)])[H.length]?=some (.lst ((js.map fun (j:Nat)=>D.int j)++[D.int i])):=by simp
  refine iU ?_
  walk_at "go"
  refine rv (a:=(.int (-1),_)) rfl ?_
  refine rv (dX hat (jR _ _)) ?_
  refine rv (gA (d:=ao (p,y,m)) (by rw [List.getElem?_map,e1];rfl)) ?_
  walk_at "go"
  refine rv (a:=(.str p,_)) rfl ?_
  walk_at "go"
  refine rv (jE _ _ _) ⟨_,rfl,fun c=>?_,fun _=>?_⟩
  ·simp at c
  ·exact q [i] (.one hl e1) (by simp)
 | succ k ih=>
  intro fuel js y i hf hj hl hb q
  obtain ⟨p,m,u,v,e1,_⟩:=I.pred y i hl
  cases fuel with
  | zero=>omega
  | succ fuel=>
  have hat:(H++[MO.lst ((js++[i]).map fun (j:Nat)=>D.int j)])[H.length]?=some (.lst ((js.map fun (j:Nat)=>D.int j)++[D.int i])):=by simp
  refine iU ?_
  walk_at "go"
  refine rv (a:=(.int (-1),_)) rfl ?_
  refine rv (dX hat (jR _ _)) ?_
  refine rv (gA (d:=ao (p,y,m)) (by rw [List.getElem?_map,e1];rfl)) ?_
  walk_at "go"
  refine rv (a:=(.str p,_)) rfl ?_
  walk_at "go"
  refine rv (jE _ _ _) ⟨_,rfl,fun c=>?_,fun c=>?_⟩
  ·have hb2:Wy.aO fs s (k+1) p=some x:=by
    have:=Wy.cn (fs:=fs) (s:=s) 1 y (k+1)
    rw [show 1+(k+1)=k+1+1 by omega,hb] at this
    rw [show Wy.aO fs s 1 y=some p from jQ hl e1] at this
    exact this.symm
   have hlp:∃j,s.last p=some j:=by
    have:=Wy.cn (fs:=fs) (s:=s) 1 p k
    rw [show 1+k=k+1 by omega,hb2] at this
    cases hj:s.last p with
    | some j=>exact ⟨j,rfl⟩
    | none=>
     have e0:Wy.aO fs s 1 p=none:=by show (Wy.back fs s p)=none;unfold Wy.back;rw [hj];rfl
     rw [e0] at this
     cases this
   obtain ⟨j,hj'⟩:=hlp
   walk_at "go"
   have hat1:(H++[MO.lst ((js++[i]).map fun (j:Nat)=>D.int j)])[n]?=some (.dct kl):=by
    rw [List.getElem?_append_left (List.getElem?_eq_some_iff.mp hn).1];exact hn
   refine tw ?_
   walk_at "go"
   refine ⟨jx hat,?_⟩
   walk_at "go"
   refine rv (a:=(.int (-1),_)) rfl ?_
   refine rv (dX hat (jR _ _)) ?_
   refine rv (gA (d:=ao (p,y,m)) (by rw [List.getElem?_map,e1];rfl)) ?_
   walk_at "go"
   refine rv (a:=(.str p,_)) rfl ?_
   walk_at "go"
   refine rv (cz (bg hat1) (by rw [R.val];show (s.last p).map _=_;rw [hj'];rfl)) ?_
   walk_at "go"
   refine rv (jr hat (by rw [show sizeLine=16777216 from rfl];simp;omega)) ?_
   rw [vg]
   walk_at "go"
   rw [show ((js.map fun (j:Nat)=>D.int j)++[D.int i]++[D.int j])=((js++[i])++[j]).map fun (j:Nat)=>D.int j by simp]
   refine ih fuel (js++[i]) p j (by omega) (by simp;omega) hj' hb2 fun js' ht hlen=>?_
   have:=q (i::js') (.cons hl e1 ht) (by rw [List.length_cons];omega)
   rwa [show js++i::js'=(js++[i])++js' by simp] at this
  ·have:p=x:=by simpa using c
   subst this
   exact q [i] (.one hl e1) (by simp)
theorem fB {fs:List (Wy.Fact Str)} {s:Wy.S Str} {kl:List (Key×D)} {wl:List Str} {H:MH} {n:Nat} {x w:Str} (I:Wy.IB fs s) (R:DR wl kl fun w=>(s.last w).map fun (i:Nat)=>D.int i) (hn:H[n]?=some (.dct kl)) {k:Nat} (hk:k < 100) (hb:Wy.aO fs s (k+1) w=some x):
  ∃js,bH [.tup (fs.map ao),.ob n,.str w,.str x] H=some (.tup (js.reverse.map fun (j:Nat)=>D.int j),H)∧Trail fs s x w js∧js.length≤100:=by
 have e:Rn (bH [.tup (fs.map ao),.ob n,.str w,.str x] H) fun p=>∃js,p=(.tup (js.reverse.map fun (j:Nat)=>D.int j),H)∧Trail fs s x w js∧js.length≤100:=by
  have hlw:∃i,s.last w=some i:=by
   have:=Wy.cn (fs:=fs) (s:=s) 1 w k
   rw [show 1+k=k+1 by omega,hb] at this
   cases hj:s.last w with
   | some j=>exact ⟨j,rfl⟩
   | none=>
    have e0:Wy.aO fs s 1 w=none:=by show (Wy.back fs s w)=none;unfold Wy.back;rw [hj];rfl
    rw [e0] at this
    cases this
  obtain ⟨i,hi⟩:=hlw
  refine kJ ?_
  walk_at "go"
  refine rv (cz (bg hn) (by rw [R.val];show (s.last w).map _=_;rw [hi];rfl)) ?_
  walk_at "go"
  refine sf I R hn k 100 [] w i hk (by simp;omega) hi hb fun js ht hlen=>?_
  walk_at "go"
  refine vD ?_
  walk_at "go"
  refine rv (a:=(.int (-1),_)) rfl ⟨rfl,?_⟩
  refine ⟨js.map fun (j:Nat)=>D.int j,[(H.length,.lst (js.map fun (j:Nat)=>D.int j))],?_,?_⟩
  ·show bR (.ob H.length) (H++[MO.lst (([]++js).map fun (j:Nat)=>D.int j)])=_
   exact lN (by simp)
  walk_at "go"
  refine rv (a:=(.tup (js.reverse.map fun (j:Nat)=>D.int j),H++[MO.lst (([]++js).map fun (j:Nat)=>D.int j)])) (by rw [List.map_reverse];rfl) ?_
  walk_at "go"
  exact rv fT ⟨js,rfl,ht,by omega⟩
 obtain ⟨p,ep,js,rfl,ht⟩:=e
 exact ⟨js,ep,ht⟩
end Mi
namespace Mi
open PySem Sm L2
theorem mN:∀(fs:List (Wy.Fact Str)) (a:List Str),a.Nodup→(fs.foldl iJ a).Nodup
 | [],_,h=>h
 | f::r,a,h=>by
  have t:∀(a:List Str) (x:Str),a.Nodup→(cK a x).Nodup:=by
   intro a x h
   unfold cK
   split
   ·exact h
   ·rename_i hx
    rw [List.nodup_append]
    refine ⟨h,by simp,fun y hy z hz e=>hx (bT.mpr ?_)⟩
    rw [←List.mem_singleton.mp hz,←e]
    exact hy
  rw [List.foldl_cons]
  exact mN r _ (t _ _ (t _ _ h))
def zeros (fs:List (Wy.Fact Str)) (w:Str):Option Int:=if g9 (wordsOf fs) w=true then some 0 else none
theorem oE {fs:List (Wy.Fact Str)} (hl:fs.length≤31) {δ:DS} {H:MH} {d:DS} (hd:δ=some (.tup (fs.map ao))::d):
  Rn (eAc [none] (eD (eFn bx (af (ae 0) av))) (gN 0) fF (mD (ae 0) (eK (.int 0))) [] .dv δ H) fun p=>∃kvs,p=(.dv kvs,H)∧DR (wordsOf fs) kvs fun w=>(zeros fs w).map D.int:=by
 subst hd
 have hW:=fh hl
 refine z8 (cG ?_)
 walk_at "go"
 refine rv (iT (by omega) (by omega)) ⟨_,_,rfl,?_⟩
 refine iO ((bX (wordsOf fs)).map D.str) (fun r δ h' a=>∃(dn rs:List Str) (d0:Option D),bX (wordsOf fs)=dn++rs∧r=rs.map D.str∧h'=H∧δ=[d0]∧a.length≤dn.length∧DR (wordsOf fs) a fun w=>if g9 dn w=true then some (.int 0) else none) _ H [] ⟨[],bX (wordsOf fs),_,rfl,rfl,rfl,rfl,Nat.le_refl _,(DR.nil _).congr fun _=>rfl⟩ ?_ ?_
 ·rintro x r δ h' a ⟨dn,rs,d0,e1,e2,rfl,rfl,hlen,R⟩
  cases rs with
  | nil=>cases e2
  | cons w rs=>
   rw [List.map_cons] at e2
   cases e2
   have hw:w∈wordsOf fs:=(br _).mem_iff.mp (by rw [e1];simp)
   have hdn:dn.length < 100:=by
    have:=(br (wordsOf fs)).length_eq
    rw [e1,List.length_append] at this
    omega
   refine ⟨rfl,rv rfl (rv rfl (rL (Bn ?_)))⟩
   walk_at "go"
   refine ⟨_,rfl,by rw [show sizeLine=16777216 from rfl];omega,dn++[w],rs,_,by rw [e1];simp,rfl,rfl,rfl,?_,?_⟩
   ·have h1:(putD a (.inr w) (.int 0)).length≤a.length+1:=by
     rcases gY (kvs:=a) (k:=.inr w) (v:=.int 0) with ⟨_,e⟩ | ⟨_,e⟩
     ·have:=congrArg List.length e;simp at this;omega
     ·have:=congrArg List.length e;simp at this;omega
    rw [List.length_append]
    exact Nat.le_trans h1 (by simp;omega)
   ·refine (R.put hw (.int 0)).congr fun x=>?_
    unfold Wy.put
    by_cases e:x=w
    ·subst e
     rw [if_pos rfl,if_pos (bT.mpr (by simp))]
    ·rw [if_neg e]
     have:g9 (dn++[w]) x=g9 dn x:=by
      rw [Bool.eq_iff_iff,bT,bT]
      simp [e]
     rw [this]
 ·rintro δ h' a ⟨dn,rs,d0,e1,e2,rfl,rfl,hlen,R⟩
  cases rs with
  | cons f rs=>cases e2
  | nil=>
   rw [List.append_nil] at e1
   refine ⟨rfl,a,rfl,R.congr fun w=>?_⟩
   unfold zeros
   have:g9 dn w=g9 (wordsOf fs) w:=by
    rw [Bool.eq_iff_iff,bT,bT,←e1]
    exact (br _).mem_iff
   rw [this]
   split <;> rfl
theorem qE {fs:List (Wy.Fact Str)} {w:Str} (h:w∈wordsOf fs):zeros fs w=some 0:=by unfold zeros;rw [if_pos (bT.mpr h)]
theorem oN {fs:List (Wy.Fact Str)} {s:Wy.S Str} {kl:List (Key×D)} {wl:List Str} {H:MH} {n:Nat} {w:Str} {Q:SQ} {d1 d3 d5:Option D} (I:Wy.IB fs s) (R:DR wl kl fun w=>(s.last w).map fun (i:Nat)=>D.int i) (hn:H[n]?=some (.dct kl)) (L:Nat)
  (hb:∀k,k≤L→∃x,Wy.aO fs s k w=some x∧∃i,s.last x=some i) (q:∀x d5,Wy.aO fs s L w=some x→Q (.nx,[some (.tup (fs.map ao)),d1,some (.ob n),d3,some (.str x),d5],H)):
  Rn (eF [] (gN 5) (aW 4 (eOp fIx (eOp fIx (ae 0) (eOp fIx (ae 2) (ae 4))) (eK (.int 0)))) ((List.range L).map fun (k:Nat)=>D.int (k:Int)) [some (.tup (fs.map ao)),d1,some (.ob n),d3,some (.str w),d5] H) Q:=by
 refine bW (fun i δ h=>∃x d5,δ=[some (.tup (fs.map ao)),d1,some (.ob n),d3,some (.str x),d5]∧h=H∧Wy.aO fs s i w=some x) ⟨w,_,rfl,rfl,rfl⟩ (fun _ _ _ _ _=>rfl) ?_ ?_
 ·rintro i x δ h hx ⟨y,d5,rfl,rfl,hy⟩
  have hi:i < L:=by
   have:=(List.getElem?_eq_some_iff.mp hx).1
   simpa using this
  obtain ⟨y',e1,j,hj⟩:=hb i (by omega)
  rw [hy] at e1
  cases e1
  obtain ⟨p,m,u,v,e2,_⟩:=I.pred y j hj
  walk_at "go"
  refine rv (cz (bg hn) (by rw [R.val];show (s.last y).map _=_;rw [hj];rfl)) ?_
  refine rv (gA (d:=ao (p,y,m)) (by rw [List.getElem?_map,e2];rfl)) ?_
  walk_at "go"
  refine rv (a:=(.str p,_)) rfl ?_
  walk_at "go"
  refine ⟨p,_,rfl,rfl,?_⟩
  show (Wy.aO fs s i w).bind (Wy.back fs s)=some p
  rw [hy]
  exact jQ hj e2
 ·rintro δ h ⟨x,d5,rfl,rfl,hx⟩
  rw [List.length_map,List.length_range] at hx
  exact q x d5 hx
theorem oO {fs:List (Wy.Fact Str)} {H:MH} (hl:fs.length≤31):
  ∃r,cp [.tup (fs.map ao)] H=some (r,H)∧((r=.non∧¬Wy.Neg fs)∨∃js s x,r=.tup ((js:List Nat).reverse.map fun (j:Nat)=>D.int j)∧Wy.Neg fs∧Wy.IB fs s∧Trail fs s x x js∧js.length≤100):=by
 have e:Rn (cp [.tup (fs.map ao)] H) fun p=>∃r,p=(r,H)∧((r=.non∧¬Wy.Neg fs)∨∃js s x,r=.tup ((js:List Nat).reverse.map fun (j:Nat)=>D.int j)∧Wy.Neg fs∧Wy.IB fs s∧Trail fs s x x js∧js.length≤100):=by
  have hW:=fh hl
  refine kJ ?_
  walk_at "go"
  obtain ⟨p,ep,kvs,rfl,R0⟩:=oE (d:=[none,none,none,none,none]) (H:=H) hl rfl
  refine rv ep ?_
  walk_at "go"
  obtain ⟨t,ks,kl,late,es,R,he⟩:=il (fs:=fs) (kv0:=kvs) (a0:=zeros fs) (H:=H) (ws:=wordsOf fs) (d0:=.dv kvs) hl rfl (fun f hf=>((bI fs []).2 f hf).2) (by omega) R0
  refine rv es ?_
  walk_at "go"
  have I0:=Wy.gO fs (zeros fs)
  refine rv rfl ⟨_,rfl,fun c=>?_,fun c=>?_⟩
  ·rcases he.how with ⟨rfl,ec⟩ | ⟨w,rfl,_⟩
   ·walk_at "go"
    refine rv (dz (fun n z=>(nomatch z)) rfl) ⟨.non,rfl,.inl ⟨rfl,?_⟩⟩
    exact Wy.mq (Wy.i3 ec) fun f hf=>by
     obtain ⟨v,hv,_⟩:=Wy.du (fs:=fs) (a0:=zeros fs) (w:=f.1) (qE ((bI fs []).2 f hf).1) (t+1)
     exact ⟨v,hv⟩
   ·cases c
  ·rcases he.how with ⟨rfl,ec⟩ | ⟨w,rfl,rfl,hst⟩
   ·cases c
   ·have IT:=Wy.cu I0 ((wordsOf fs).length+1)
    have hneg:=Wy.jv I0 (ws:=wordsOf fs) (fun f hf=>((bI fs []).2 f hf).2) hst
    have hkl:kl.length≤(wordsOf fs).length:=R.la.len
    have hwalk:∀k,k≤kl.length→∃x,Wy.aO fs (Wy.runs fs (Wy.st0 (zeros fs)) ((wordsOf fs).length+1)) k w=some x∧∃i,(Wy.runs fs (Wy.st0 (zeros fs)) ((wordsOf fs).length+1)).last x=some i:=by
     intro k hk
     obtain ⟨x,e1,l⟩:=Wy.gJ I0 hst k (by omega)
     exact ⟨x,e1,(IT.st x).mp (by omega)⟩
    obtain ⟨ds,hds,hdom⟩:=R.la.dom
    obtain ⟨x,r,e1,hr,e2⟩:=Wy.lR (fs:=fs) (s:=Wy.runs fs (Wy.st0 (zeros fs)) ((wordsOf fs).length+1)) (w:=w) (ws:=ds) (L:=kl.length) (fun k hk=>by
     obtain ⟨x,e1,i,hi⟩:=hwalk k hk
     exact ⟨x,e1,hdom x (by rw [hi];rfl)⟩) (by omega)
    walk_at "go"
    refine fN ?_
    walk_at "go"
    refine rv (a:=(.int kl.length,H++[.dct ks,.dct kl])) (by
     show (match bp (.ob (H.length+1)) (H++[.dct ks,.dct kl]) with | some kvs=>_ | none=>_)=_
     rw [bg (at1 _ _ _)]) ?_
    walk_at "go"
    refine ⟨(kl.length:Int),rfl,by omega,by omega,?_⟩
    rw [Int.toNat_natCast]
    refine oN IT R.la (at1 _ _ _) kl.length hwalk ?_
    intro x' d5 hx'
    rw [e1] at hx'
    cases hx'
    walk_at "go"
    obtain ⟨js,ew,ht⟩:=fB (H:=H++[.dct ks,.dct kl]) (n:=H.length+1) IT R.la (at1 _ _ _) (k:=r) (by omega) e2
    refine rv ew ?_
    walk_at "go"
    exact rv fT ⟨_,rfl,.inr ⟨js,_,x,rfl,hneg,IT,ht⟩⟩
 obtain ⟨p,ep,r,rfl,h⟩:=e
 exact ⟨r,ep,h⟩
end Mi
namespace Mi
open PySem Sm L2
theorem pC {fs:List (Wy.Fact Str)} {H:MH} {one other:Str} {c:Int} (hl:fs.length≤31) (hne:other≠one) (hneg:¬Wy.Neg fs):
  ∃r,cq [.tup (fs.map ao),ao (one,other,c)] H=some (r,H)∧((r=.non∧¬∃d,Wy.Way fs one other d∧d≤c)∨∃js s v,r=.tup ((js:List Nat).reverse.map fun (j:Nat)=>D.int j)∧(∃d,Wy.Way fs one other d∧d≤c)∧Wy.IB fs s∧Trail fs s one other js∧s.sums one=some 0∧s.sums other=some v∧v≤c∧js.length≤100):=by
 have e:Rn (cq [.tup (fs.map ao),ao (one,other,c)] H) fun p=>∃r,p=(r,H)∧((r=.non∧¬∃d,Wy.Way fs one other d∧d≤c)∨∃js s v,r=.tup ((js:List Nat).reverse.map fun (j:Nat)=>D.int j)∧(∃d,Wy.Way fs one other d∧d≤c)∧Wy.IB fs s∧Trail fs s one other js∧s.sums one=some 0∧s.sums other=some v∧v≤c∧js.length≤100):=by
  have hW:=fh hl
  refine kJ ?_
  simp only [ao]
  walk_at "go"
  refine p5 (p4 ?_)
  walk_at "go"
  refine ⟨_,rfl,tq ?_⟩
  refine ⟨by simp,?_⟩
  walk_at "go"
  have hput:dh [] [(Sum.inr one,D.int 0)]=putD [] (.inr one) (.int 0):=rfl
  rw [hput]
  have R0:DR (one::wordsOf fs) (putD [] (.inr one) (.int 0)) fun w=>(Wy.put (fun _=>(none:Option Int)) one (some 0) w).map D.int:=
   ((DR.nil (one::wordsOf fs)).put List.mem_cons_self (.int 0)).congr fun x=>lZ (f:=fun _=>(none:Option Int)) (g:=D.int)
  obtain ⟨t,ks,kl,late,es,R,he⟩:=il (fs:=fs) (H:=H) (ws:=one::wordsOf fs) (d0:=.dv (putD [] (.inr one) (.int 0))) hl rfl (fun f hf=>List.mem_cons_of_mem _ ((bI fs []).2 f hf).2) (by rw [List.length_cons];omega) R0
  refine rv es ?_
  have I0:=Wy.gO fs (Wy.put (fun _=>(none:Option Int)) one (some 0))
  have hk:∀f∈fs,Wy.kept (Wy.runs fs (Wy.st0 (Wy.put (fun _=>(none:Option Int)) one (some 0))) (t+1)) f:=by
   rcases he.how with ⟨_,ec⟩ | ⟨w,_,rfl,hst⟩
   ·exact Wy.i3 ec
   ·exact absurd (Wy.jv I0 (ws:=wordsOf fs) (fun f hf=>((bI fs []).2 f hf).2) hst) hneg
  have IT:=Wy.cu I0 (t+1)
  have hci:=fun c=>Wy.rZ (c:=c) hne hk
  have hsrc:=Wy.i8 (fs:=fs) (a0:=Wy.put (fun _=>(none:Option Int)) one (some 0)) (t+1)
  have hone:(Wy.runs fs (Wy.st0 (Wy.put (fun _=>(none:Option Int)) one (some 0))) (t+1)).sums one=some 0:=by
   obtain ⟨v,hv,lv⟩:=Wy.du (fs:=fs) (a0:=Wy.put (fun _=>(none:Option Int)) one (some 0)) (w:=one) Wy.aB (t+1)
   obtain ⟨a,v0,ha,q⟩:=hsrc.way one v hv
   have hao:a=one:=by
    refine Classical.byContradiction fun z=>?_
    rw [Wy.aP z] at ha
    cases ha
   subst hao
   rw [Wy.aB] at ha
   cases ha
   rcases q with ⟨_,rfl⟩ | ⟨d,x,rfl⟩
   ·exact hv
   ·by_cases z:(0:Int)+d=0
    ·rw [z] at hv;exact hv
    ·exact absurd ⟨a,d,x,by omega⟩ hneg
  generalize hS:Wy.runs fs (Wy.st0 (Wy.put (fun _=>(none:Option Int)) one (some 0))) (t+1)=s at*
  walk_at "go"
  refine rv (jD (bg (at0 _ _ _))) ⟨_,rfl,fun c1=>?_,fun c1=>?_⟩
  ·rw [R.su.val] at c1
   have c1:(!((s.sums other).map D.int).isSome)=true:=c1
   refine ⟨fun _=>?_,fun z=>(nomatch z)⟩
   walk_at "go"
   refine rv (dz (fun n z=>(nomatch z)) rfl) ⟨.non,rfl,.inl ⟨rfl,fun z=>?_⟩⟩
   obtain ⟨v,hv,_⟩:=(hci c).mpr z
   rw [hv] at c1
   cases c1
  ·rw [R.su.val] at c1
   have c1:(!((s.sums other).map D.int).isSome)=false:=c1
   cases hv:s.sums other with
   | none=>rw [hv] at c1;cases c1
   | some v=>
    have hv2:bc ks (.inr other)=some (.int v):=by rw [R.su.val];show (s.sums other).map D.int=_;rw [hv];rfl
    walk_at "go"
    refine rv (cz (bg (at0 _ _ _)) hv2) ?_
    walk_at "go"
    refine rv rfl ⟨_,rfl,fun c2=>?_,fun c2=>?_⟩
    ·have c2:c < v:=of_decide_eq_true c2
     walk_at "go"
     refine rv (dz (fun n z=>(nomatch z)) rfl) ⟨.non,rfl,.inl ⟨rfl,fun z=>?_⟩⟩
     obtain ⟨v',hv',l⟩:=(hci c).mpr z
     rw [hv] at hv'
     cases hv'
     omega
    ·have c2:¬c < v:=of_decide_eq_false c2
     walk_at "go"
     obtain ⟨k,hk1,hk2,_⟩:=Wy.qG IT hsrc (ws:=wordsOf fs) (fun f hf=>((bI fs []).2 f hf).2) hneg hv hne
     obtain ⟨js,ew,ht,hjl⟩:=fB (H:=H++[.dct ks,.dct kl]) (n:=H.length+1) IT R.la (at1 _ _ _) (k:=k) (by omega) hk2
     refine rv ew ?_
     walk_at "go"
     exact rv fT ⟨_,rfl,.inr ⟨js,s,v,rfl,(hci c).mp ⟨v,hv,by omega⟩,IT,ht,hone,hv,by omega,hjl⟩⟩
 obtain ⟨p,ep,r,rfl,h⟩:=e
 exact ⟨r,ep,h⟩
theorem mx {fs:List (Wy.Fact Str)} {H:MH} {f:Wy.Fact Str} (hl:fs.length≤31) (hne:f.1≠f.2.1):
  ∃b,b0 [.tup (fs.map ao),ao f] H=some (.bl b,H)∧(b=true↔Wy.Fol fs f):=by
 have e:Rn (b0 [.tup (fs.map ao),ao f] H) fun p=>∃b,p=(.bl b,H)∧(b=true↔Wy.Fol fs f):=by
  refine cO ?_
  walk_at "go"
  obtain ⟨r,er,h⟩:=oO (fs:=fs) (H:=H) hl
  refine rv er ?_
  walk_at "go"
  rcases h with ⟨rfl,hneg⟩ | ⟨js,s,x,rfl,hneg,_⟩
  ·refine rv rfl ⟨_,rfl,fun z=>(nomatch z),fun _=>?_⟩
   walk_at "go"
   obtain ⟨one,other,c⟩:=f
   obtain ⟨r,er,h⟩:=pC (fs:=fs) (H:=H) (c:=c) hl (Ne.symm hne) hneg
   refine rv er ?_
   walk_at "go"
   rcases h with ⟨rfl,hw⟩ | ⟨js,s,v,rfl,hw,_⟩
   ·refine rv rfl ⟨_,rfl,fun z=>(nomatch z),fun z=>?_⟩
    exact (z.elim hneg hw).elim
   ·exact rv rfl ⟨_,rfl,fun _=>.inr hw,fun _=>rfl⟩
  ·refine rv rfl ⟨_,rfl,fun _=>?_,fun z=>(nomatch z)⟩
   walk_at "go"
   exact ⟨_,rfl,fun _=>.inl hneg,fun _=>rfl⟩
 obtain ⟨p,ep,b,rfl,h⟩:=e
 exact ⟨b,ep,h⟩
end Mi
namespace Mi
open PySem Sm
theorem fL {a b:Int} {h:MH} {Q:D×MH→Prop} (hb:0 < b) (q:Q (.int (a % b),h)):Rn (jF (.int a) (.int b) h) Q:=⟨_,by unfold jF;dsimp only;rw [if_pos hb],q⟩
theorem xS {a b:Int} {h:MH} {Q:D×MH→Prop} (hb:0 < b) (hb2:b≤10^40) (q:Q (.int (a / b),h)):Rn (uv (.int a) (.int b) h) Q:=⟨_,by unfold uv;dsimp only;rw [if_pos ⟨hb,hb2⟩],q⟩
theorem eX {a b:Int} {h:MH} {Q:D×MH→Prop} (hb:gx a b=true) (q:Q (.int (a*b),h)):Rn (eZ (.int a) (.int b) h) Q:=⟨_,by show (if gx a b then _ else _)=_;rw [if_pos hb],q⟩
theorem mul_r {a b:Int} (h1:-(2^64) < b) (h2:b < 2^64):gx a b=true:=by unfold gx;simp only [Bool.or_eq_true,Bool.and_eq_true,decide_eq_true_eq];exact .inr ⟨h1,h2⟩
theorem nN {a b:Int} (h1:-(2^64) < a) (h2:a < 2^64):gx a b=true:=by unfold gx;simp only [Bool.or_eq_true,Bool.and_eq_true,decide_eq_true_eq];exact .inl ⟨h1,h2⟩
theorem rC {h:MH} {s c:Nat} {cs:List Int} {n t:Int} (hs:h[s]?=some (.lst [.int n,.ob c,.int t])) (hc:h[c]?=some (.lst (cs.map D.int))) (ne:c≠s) (t0:0≤t) (tB:t < 2^60):
  Rn (cE [.ob s] h) fun p=>∃n',0≤n'∧p=(.non,h.set s (.lst [.int n',.ob c,.int (t+1)])):=by
 have hl:s < h.length:=(List.getElem?_eq_some_iff.mp hs).1
 generalize hH:h.set s (.lst [.int n,.ob c,.int (t+1)])=H
 have Hs:H[s]?=some (.lst [.int n,.ob c,.int (t+1)]):=by rw [←hH];exact List.getElem?_set_self hl
 have Hc:H[c]?=some (.lst (cs.map D.int)):=by rw [←hH,List.getElem?_set_ne (Ne.symm ne)];exact hc
 have vh:∀v:Int,ke (.ob s) (.int 0) (.int v) H=some (h.set s (.lst [.int v,.ob c,.int (t+1)])):=fun v=>by
  rw [mz (p:=0) Hs rfl,←hH,List.set_set];rfl
 have e3:ke (.ob s) (.int 2) (.int (t+1)) h=some H:=by rw [mz (p:=2) hs rfl,←hH];rfl
 have e4:fb [.ob c] H=some (.int cs.length,H):=by rw [qo Hc,List.length_map]
 refine cO ?_
 walk_at "go"
 refine rv (dX hs rfl) ?_
 walk_at "go"
 refine rv (dX hs rfl) ?_
 walk_at "go"
 refine rv rfl ?_
 walk_at "go"
 refine rv e3 ?_
 walk_at "go"
 refine rv (rQ Hc) ⟨_,rfl,fun hne=>?pos,fun hne=>?neg⟩
 case' pos=>
  have hpos:0 < cs.length:=by cases cs with | nil=>simp at hne | cons _ _=>simp
  walk_at "go"
  refine rv e4 (fL (by omega) ?_)
  obtain ⟨z,hz⟩:=uV cs (t % (cs.length:Int)) (Int.emod_nonneg _ (by omega)) (Int.emod_lt_of_pos _ (by omega))
  refine rv (dX Hc hz) ?_
 all_goals
  walk_at "go"
  refine rv e4 (rv rfl ⟨_,rfl,?_⟩)
  refine (fun mix=>⟨fun c1=>?thenA,fun _=>⟨fun z=>(nomatch z),fun _=>mix⟩⟩) ?thenB
  case thenA=>
   walk_at "go"
   refine rv rfl ?_
   walk_at "go"
   refine rv rfl (rv rfl ⟨_,rfl,fun c2=>?_,fun _=>mix⟩)
   walk_at "go"
   refine rv rfl ?_
   walk_at "go"
   refine rv (vh _) ?_
   walk_at "go"
   exact ⟨_,by split <;> omega,rfl⟩
  case thenB=>
   walk_at "go"
   refine fL (by decide) ?_
   walk_at "go"
   refine eX (nN (by decide) (by decide)) ?_
   walk_at "go"
   refine eX (mul_r (by omega) (by omega)) (rv rfl ?_)
   walk_at "go"
   refine rv rfl ?_
   walk_at "go"
   refine eX (mul_r (by decide) (by decide)) ?_
   walk_at "go"
   refine fL (by decide) ?_
   walk_at "go"
   refine eX (nN (Int.lt_of_lt_of_le (by decide) (Int.emod_nonneg _ (by decide))) (Int.lt_trans (Int.emod_lt_of_pos _ (by decide)) (by decide))) ?_
   walk_at "go"
   refine fL (by decide) ?_
   walk_at "go"
   refine eX (mul_r (by decide) (by decide)) ?_
   walk_at "go"
   refine rv rfl ?_
   walk_at "go"
   refine rv rfl ?_
   walk_at "go"
   refine fL (by decide) ?_
   walk_at "go"
   refine rv rfl (rv rfl ?_)
   walk_at "go"
   refine rv (vh _) ?_
   walk_at "go"
   exact ⟨_,Int.add_nonneg (Int.emod_nonneg _ (by decide)) (by decide),rfl⟩
end Mi
namespace Mi
open PySem Sm
structure St (s c:Nat) (cs:List Int) (B:Nat) (h:MH):Prop where
 st:∃n t:Int,h[s]?=some (.lst [.int n,.ob c,.int t])∧0≤n∧0≤t∧t≤B
 ce:h[c]?=some (.lst (cs.map D.int))
 ne:c≠s
def But (s:Nat) (h h':MH):Prop:=h'.length=h.length∧∀k,k≠s→h'[k]?=h[k]?
theorem But.refl (s:Nat) (h:MH):But s h h:=⟨rfl,fun _ _=>rfl⟩
theorem But.trans {s:Nat} {h h1 h2:MH} (a:But s h h1) (b:But s h1 h2):But s h h2:=⟨b.1.trans a.1,fun k n=>(b.2 k n).trans (a.2 k n)⟩
theorem But.set {s:Nat} {h:MH} {o:MO}:But s h (h.set s o):=⟨List.length_set,fun k n=>List.getElem?_set_ne (Ne.symm n)⟩
theorem St.up {s c:Nat} {cs:List Int} {B B':Nat} {h:MH} (S:St s c cs B h) (hB:B≤B'):St s c cs B' h:=by
 obtain ⟨n,t,e,a,b,d⟩:=S.st
 exact ⟨⟨n,t,e,a,b,by omega⟩,S.ce,S.ne⟩
theorem St.set {s c:Nat} {cs:List Int} {B B':Nat} {h:MH} {n t:Int} (S:St s c cs B h) (h1:0≤n) (h2:0≤t) (h3:t≤B'):St s c cs B' (h.set s (.lst [.int n,.ob c,.int t])):=by
 obtain ⟨n0,t0,e,_⟩:=S.st
 exact ⟨⟨n,t,List.getElem?_set_self (List.getElem?_eq_some_iff.mp e).1,h1,h2,h3⟩,by rw [List.getElem?_set_ne (Ne.symm S.ne)];exact S.ce,S.ne⟩
theorem St.more {s c:Nat} {cs:List Int} {B:Nat} {h:MH} (S:St s c cs B h) (g:MH):St s c cs B (h++g):=by
 obtain ⟨n,t,e,r⟩:=S.st
 exact ⟨⟨n,t,by rw [List.getElem?_append_left (List.getElem?_eq_some_iff.mp e).1];exact e,r⟩,by rw [List.getElem?_append_left (List.getElem?_eq_some_iff.mp S.ce).1];exact S.ce,S.ne⟩
theorem St.lt {s c:Nat} {cs:List Int} {B:Nat} {h:MH} (S:St s c cs B h):s < h.length∧c < h.length:=by
 obtain ⟨n,t,e,r⟩:=S.st
 exact ⟨(List.getElem?_eq_some_iff.mp e).1,(List.getElem?_eq_some_iff.mp S.ce).1⟩
theorem ck {h:MH} {s c:Nat} {cs:List Int} {B:Nat} {m:Int} (S:St s c cs B h) (hB:B < 2^60) (m0:0 < m) (m1:m≤10^40):
  Rn (aI [.ob s,.int m] h) fun p=>∃r:Int,p.1=.int r∧0≤r∧r < m∧St s c cs (B+1) p.2∧But s h p.2:=by
 obtain ⟨n,t,hs,n0,t0,tB⟩:=S.st
 refine cO ?_
 walk_at "go"
 refine rv (dX hs rfl) ?_
 walk_at "go"
 refine rv rfl ⟨_,rfl,fun _=>?pos,fun _=>?neg⟩
 case' pos=>
  walk_at "go"
  obtain ⟨p,ep,n',n0',rfl⟩:=rC hs S.ce S.ne t0 (by omega)
  refine rv ep ?_
  have S1:St s c cs (B+1) (h.set s (.lst [.int n',.ob c,.int (t+1)])):=S.set n0' (by omega) (by omega)
  have b1:But s h (h.set s (.lst [.int n',.ob c,.int (t+1)])):=But.set
 case' neg=>
  have S1:St s c cs (B+1) h:=S.up (Nat.le_succ B)
  have b1:But s h h:=But.refl s h
 all_goals
  generalize h.set s (MO.lst [D.int _,D.ob c,D.int (t+1)])=h1 at*
  obtain ⟨n2,t2,hs2,n02,t02,tB2⟩:=S1.st
  walk_at "go"
  refine rv (dX hs2 rfl) ?_
  walk_at "go"
  refine fL m0 ?_
  walk_at "go"
  refine rv (dX hs2 rfl) ?_
  walk_at "go"
  refine xS m0 m1 ?_
  walk_at "go"
  refine rv (mz (p:=0) hs2 rfl) ?_
  walk_at "go"
  exact ⟨_,rfl,Int.emod_nonneg _ (by omega),Int.emod_lt_of_pos _ m0,S1.set (Int.ediv_nonneg n02 (by omega)) t02 tB2,b1.trans But.set⟩
theorem dS {h:MH} {s c:Nat} {cs:List Int} {B:Nat} {d:D} {xs:List D} (S:St s c cs B h) (hB:B < 2^60) (hd:d=.lv xs∨d=.tup xs) (h0:0 < xs.length) (h1:xs.length≤1000000):
  Rn (aY [.ob s,d] h) fun p=>p.1∈xs∧St s c cs (B+1) p.2∧But s h p.2:=by
 refine cO ?_
 walk_at "go"
 have e1:fb [d] h=some (.int xs.length,h):=by rcases hd with rfl | rfl <;> rfl
 refine rv e1 ?_
 walk_at "go"
 obtain ⟨p,ep,r,e2,r0,r1,S1,b1⟩:=ck (m:=(xs.length:Int)) S hB (by omega) (by omega)
 obtain ⟨x,h'⟩:=p
 dsimp only at e2 S1 b1
 subst e2
 refine rv ep ?_
 obtain ⟨v,e3,hv⟩:=uU r0 r1
 have e4:fIx d (.int r) h'=some (v,h'):=by rcases hd with rfl | rfl <;> simp only [fIx,bp,bR,Option.bind_some,e3,Option.map_some]
 refine rv e4 ?_
 walk_at "go"
 exact ⟨hv,S1,b1⟩
theorem px (ns:List Int) (hn:ns.length≤63):∃cs:List Int,bO [.ro (ns.map D.int)] []=some (.ob 1,[.lst (cs.map D.int),.lst [.int 0,.ob 0,.int 0]])∧St 1 0 cs 0 [.lst (cs.map D.int),.lst [.int 0,.ob 0,.int 0]]:=by
 refine ⟨(ns.drop (HT.sIx ns.length 0 none)).take (HT.sIx ns.length ns.length (some 63)-HT.sIx ns.length 0 none),?_,⟨⟨0,0,rfl,by decide,by decide,by decide⟩,rfl,by decide⟩⟩
 have e:Rn (bO [.ro (ns.map D.int)] []) fun p=>p=(.ob 1,[.lst (((ns.drop (HT.sIx ns.length 0 none)).take (HT.sIx ns.length ns.length (some 63)-HT.sIx ns.length 0 none)).map D.int),.lst [.int 0,.ob 0,.int 0]]):=by
  refine cO ?_
  walk_at "go"
  refine x6 ?_
  walk_at "go"
  refine ⟨_,rfl,rv rfl ?_⟩
  walk_at "go"
  refine ⟨_,_,_,rfl,rfl,?_⟩
  walk_at "go"
  simp only [cutD,List.length_map,List.map_drop,List.map_take,List.length_nil,List.nil_append,List.cons_append,List.length_cons]
 obtain ⟨p,ep,rfl⟩:=e
 exact ep
end Mi
namespace Mi
open PySem Sm L2
theorem hU {a b:Str} {h:MH} (hl:a.length+b.length≤10000):aU (.str a) (.str b) h=some (.str (a++b),h):=by
 show (if a.length+b.length≤sizeLine then some (D.str (a++b),h) else none)=_
 rw [if_pos (by rw [show sizeLine=16777216 from rfl];omega)]
theorem uu {a:Str} {h:MH} (hl:a.length≤10000):fb [.str a] h=some (.int a.length,h):=by
 show (if a.length≤sizeLine then some (D.int a.length,h) else none)=_
 rw [if_pos (by rw [show sizeLine=16777216 from rfl];omega)]
theorem nX {a:Str} {lo hi:Option Int} {h:MH} (hl:a.length≤10000):uo (.str a) lo hi h=some (.str (Txt.slice a lo hi),h):=by
 show (if a.length≤sizeLine then some (D.str (Txt.slice a lo hi),h) else none)=_
 rw [if_pos (by rw [show sizeLine=16777216 from rfl];omega)]
def jL (z:Str) (i:Int):Str:=match atI z.cps.toList i with
 | some c=>⟨#[c]⟩
 | none=>""
theorem wF {z:Str} {i:Int} {h:MH} (hl:z.length≤10000) (h0:0≤i) (h1:i < z.cps.toList.length):(jL z i).length=1∧fIx (.str z) (.int i) h=some (.str (jL z i),h):=by
 obtain ⟨v,e,_⟩:=uU (xs:=z.cps.toList) h0 h1
 have e1:jL z i=⟨#[v]⟩:=by unfold jL;rw [e]
 rw [e1]
 refine ⟨rfl,?_⟩
 show (if z.length≤sizeLine then (atI z.cps.toList i).map fun c=>(D.str ⟨#[c]⟩,h) else none)=_
 rw [if_pos (by rw [show sizeLine=16777216 from rfl];omega),e]
 rfl
def cx:Str:="abcdefghijklmnopqrstuvwxyz"
theorem fR {i:Int} {h:MH} (h0:0≤i) (h1:i < 26):(jL cx i).length=1∧fIx (.str "abcdefghijklmnopqrstuvwxyz") (.int i) h=some (.str (jL cx i),h):=
 wF (z:=cx) (by decide) h0 (by rw [show (cx.cps.toList.length:Int)=26 by decide];exact h1)
def low (w:Str):Prop:=∀c∈w.cps,97≤c∧c≤122
theorem wk:low "":=fun c hc=>absurd (show c∈(#[]:Array Nat) from hc) (by simp)
theorem mh {a b:Str} (ha:low a) (hb:low b):low (a++b):=by
 intro c hc
 have hc':c∈a.cps++b.cps:=hc
 rcases Array.mem_append.mp hc' with z | z
 ·exact ha c z
 ·exact hb c z
theorem kR {x:Str} (l u:Option Int) (h:low x):low (Txt.slice x l u):=by
 unfold Txt.slice
 split
 ·exact h
 ·intro c hc
  have hc':c∈(List.filterMap (x.cps[·]?) (Builtin.Str.strSliceIndices l u 1 x.length)).toArray:=hc
  rw [List.mem_toArray] at hc'
  obtain ⟨i,_,e⟩:=List.mem_filterMap.mp hc'
  exact h c (Array.mem_of_getElem? e)
theorem t6 {w:Str} (h:low w):PyData.strOk w=true:=fj.mpr fun c hc=>by have:=(h c hc).2;omega
theorem pe:cx.cps.toList=(List.range 26).map (97+·):=by decide+kernel
theorem mF {i:Int} (h0:0≤i) (h1:i < 26):jL cx i=⟨#[97+i.toNat]⟩:=by
 obtain ⟨n,rfl⟩:=Int.eq_ofNat_of_zero_le h0
 have:atI cx.cps.toList (n:Int)=some (97+n):=by
  rw [pe]
  exact iR (by rw [List.getElem?_map,List.getElem?_range (by omega)];rfl)
 unfold jL
 rw [this]
 rfl
theorem oa {i:Int} (h0:0≤i) (h1:i < 26):low (jL cx i):=by
 rw [mF h0 h1]
 intro c hc
 have:c=97+i.toNat:=by simpa using hc
 omega
theorem nc {x:Str} {j:Int} (h0:0≤j):(Txt.slice x none (some j)).length≤j.toNat:=by
 have key:(Builtin.Str.strSliceIndices none (some j) 1 x.length).length≤j.toNat:=by
  unfold Builtin.Str.strSliceIndices sliceRange
  simp only [show (1:Int) > 0 by decide,if_true,List.length_map,List.length_range]
  (split <;> (try split) <;> (try split) <;> (try simp only [Int.ediv_one]) <;> omega)
 unfold Txt.slice
 split
 ·next z=>simp at z;have:x.cps.size=x.length:=rfl;omega
 ·show (List.filterMap _ (Builtin.Str.strSliceIndices none (some j) 1 x.length)).toArray.size≤_
  rw [List.size_toArray]
  exact Nat.le_trans (List.length_filterMap_le _ _) key
theorem mZ {x:Str} {j:Int} (h0:0≤j):(Txt.slice x (some j) none).length≤x.length-j.toNat:=by
 have key:(Builtin.Str.strSliceIndices (some j) none 1 x.length).length≤x.length-j.toNat:=by
  unfold Builtin.Str.strSliceIndices sliceRange
  simp only [show (1:Int) > 0 by decide,if_true,List.length_map,List.length_range]
  (split <;> (try split) <;> (try split) <;> (try simp only [Int.ediv_one]) <;> omega)
 unfold Txt.slice
 split
 ·next z=>simp at z;have:x.cps.size=x.length:=rfl;omega
 ·show (List.filterMap _ (Builtin.Str.strSliceIndices (some j) none 1 x.length)).toArray.size≤_
  rw [List.size_toArray]
  exact Nat.le_trans (List.length_filterMap_le _ _) key
theorem pF {a b x y:Str} (e:a++x++b=a++y++b):x=y:=by
 have e1:(a.cps++x.cps)++b.cps=(a.cps++y.cps)++b.cps:=congrArg Str.cps e
 have e2:=congrArg Array.toList e1
 simp only [Array.toList_append] at e2
 have e3:=List.append_cancel_left (List.append_cancel_right e2)
 cases x;cases y;exact congrArg Str.mk (Array.toList_inj.mp e3)
def wordAt (stem:Str) (at_ first stride:Int) (k:Int):Str:=Txt.slice stem none (some at_)++jL cx ((first+stride*k) % 26)++Txt.slice stem (some at_) none
theorem sh {stem:Str} {at_ first stride:Int} {k j:Nat} (hs:stride∈[1,3,5,7,9,11]) (hk:k < 6) (hj:j < 6) (e:wordAt stem at_ first stride k=wordAt stem at_ first stride j):k=j:=by
 have e1:=pF (show Txt.slice stem none (some at_)++_++Txt.slice stem (some at_) none=Txt.slice stem none (some at_)++_++_ from e)
 rw [mF (Int.emod_nonneg _ (by decide)) (Int.emod_lt_of_pos _ (by decide)),mF (Int.emod_nonneg _ (by decide)) (Int.emod_lt_of_pos _ (by decide))] at e1
 have e2:97+((first+stride*k) % 26).toNat=97+((first+stride*j) % 26).toNat:=by injection e1 with e1;injection e1 with e1;injection e1
 have e3:(first+stride*k) % 26=(first+stride*j) % 26:=by
  have a1:=Int.emod_nonneg (first+stride*k) (show (26:Int)≠0 by decide)
  have a2:=Int.emod_nonneg (first+stride*j) (show (26:Int)≠0 by decide)
  omega
 simp at hs
 rcases hs with rfl | rfl | rfl | rfl | rfl | rfl <;> omega
theorem iy {h:MH} {s c:Nat} {cs:List Int} {B:Nat} {m:Int} (S:Mi.St s c cs B h) (hB:B+100 < 2^60) (m0:0≤m) (m1:m≤6):
  Rn (bN [.ob s,.int m] h) fun p=>∃ws:List Str,p.1=.lv (ws.map D.str)∧ws.length=m.toNat∧(∀w∈ws,1≤w.length∧w.length≤7∧low w)∧ws.Nodup∧Mi.St s c cs (B+20) p.2∧But s h p.2:=by
 refine cO ?_
 walk_at "go"
 refine fN ?_
 walk_at "go"
 obtain ⟨⟨x,h1⟩,e1,hx,S1,b1⟩:=dS (d:=.lv [.int 0,.int 1,.int 1,.int 2,.int 3,.int 6]) S (by omega) (.inl rfl) (by simp) (by simp)
 refine rv e1 ?_
 dsimp only at hx S1 b1
 have hk:∃k:Nat,x=.int k∧k≤6:=by
  simp at hx
  rcases hx with rfl | rfl | rfl | rfl | rfl
  ·exact ⟨0,rfl,by omega⟩
  ·exact ⟨1,rfl,by omega⟩
  ·exact ⟨2,rfl,by omega⟩
  ·exact ⟨3,rfl,by omega⟩
  ·exact ⟨6,rfl,by omega⟩
 obtain ⟨k,rfl,hk⟩:=hk
 walk_at "go"
 refine ⟨(k:Int),rfl,by omega,by omega,?_⟩
 rw [Int.toNat_natCast]
 refine bW (fun i δ h'=>∃stem d4,δ=[some (.ob s),some (.int m),some (.str "abcdefghijklmnopqrstuvwxyz"),some (.str stem),d4,none,none,none]∧stem.length≤i∧low stem∧Mi.St s c cs (B+1+i) h'∧But s h h')
  ⟨"",_,rfl,Nat.le_refl _,wk,S1,b1⟩ (fun _ _ _ _ _=>rfl) ?_ ?_
 ·rintro i x δ h2 hx ⟨stem,d4,rfl,hst,hok,S2,b2⟩
  have hi:i < k:=by
   have:=(List.getElem?_eq_some_iff.mp hx).1
   simpa using this
  walk_at "go"
  obtain ⟨⟨y,h3⟩,e3,r,rfl,r0,r1,S3,b3⟩:=ck (m:=26) S2 (by omega) (by decide) (by decide)
  refine rv e3 ?_
  walk_at "go"
  obtain ⟨hc,e4⟩:=fR (h:=h3) r0 r1
  refine rv e4 ?_
  walk_at "go"
  refine rv (hU (by omega)) ?_
  walk_at "go"
  exact ⟨stem++jL cx r,_,rfl,by rw [PySem.Str.length_append];omega,mh hok (oa r0 r1),S3,b2.trans b3⟩
 ·rintro δ h2 ⟨stem,d4,rfl,hst,hok,S2,b2⟩
  rw [List.length_map,List.length_range] at hst S2
  walk_at "go"
  refine rv (uu (by omega)) ?_
  walk_at "go"
  refine rv (a:=(.int ((stem.length:Int)+1),h2)) rfl ?_
  walk_at "go"
  obtain ⟨⟨y,h3⟩,e3,at_,rfl,a0,a1,S3,b3⟩:=ck (m:=(stem.length:Int)+1) S2 (by omega) (by omega) (by omega)
  refine rv e3 ?_
  walk_at "go"
  obtain ⟨⟨y,h4⟩,e4,first,rfl,f0,f1,S4,b4⟩:=ck (m:=26) S3 (by omega) (by decide) (by decide)
  refine rv e4 ?_
  walk_at "go"
  obtain ⟨⟨x,h5⟩,e5,hx,S5,b5⟩:=dS (d:=.lv [.int 1,.int 3,.int 5,.int 7,.int 9,.int 11]) S4 (by omega) (.inl rfl) (by simp) (by simp)
  refine rv e5 ?_
  dsimp only at hx S5 b5 ⊢
  have hs:∃r:Int,x=.int r∧0≤r∧r≤11∧r∈[1,3,5,7,9,11]:=by
   simp at hx
   rcases hx with rfl | rfl | rfl | rfl | rfl | rfl
   ·exact ⟨1,rfl,by decide,by decide,by simp⟩
   ·exact ⟨3,rfl,by decide,by decide,by simp⟩
   ·exact ⟨5,rfl,by decide,by decide,by simp⟩
   ·exact ⟨7,rfl,by decide,by decide,by simp⟩
   ·exact ⟨9,rfl,by decide,by decide,by simp⟩
   ·exact ⟨11,rfl,by decide,by decide,by simp⟩
  obtain ⟨stride,rfl,t0,t1,tm⟩:=hs
  walk_at "go"
  refine fN ?_
  walk_at "go"
  refine ⟨m,rfl,by omega,by omega,?_⟩
  have hw:∀k:Int,1≤(wordAt stem at_ first stride k).length∧(wordAt stem at_ first stride k).length≤7∧low (wordAt stem at_ first stride k):=by
   intro k
   have c0:=Int.emod_nonneg (first+stride*k) (show (26:Int)≠0 by decide)
   have c1:=Int.emod_lt_of_pos (first+stride*k) (show (0:Int) < 26 by decide)
   obtain ⟨hc,e⟩:=fR (i:=(first+stride*k) % 26) (h:=[]) c0 c1
   have s1:=nc (x:=stem) a0
   have s2:=mZ (x:=stem) a0
   have s3:low (wordAt stem at_ first stride k):=mh (mh (kR _ _ hok) (oa c0 c1)) (kR _ _ hok)
   refine (fun (z:_∧_)=>⟨z.1,z.2,s3⟩) ?_
   unfold wordAt
   rw [PySem.Str.length_append,PySem.Str.length_append]
   omega
  refine rv (fo rfl (fun x=>match x with | .int k=>some (.str (wordAt stem at_ first stride k)) | _=>none) (fun δ=>∃d0,δ=[d0,some (.int at_),some (.int first),some (.str "abcdefghijklmnopqrstuvwxyz"),some (.str stem),some (.int stride)]) ⟨_,rfl⟩ ?_) ⟨?_,?_⟩
  ·rintro x hx δ ⟨d0,rfl⟩
   obtain ⟨k,hk,rfl⟩:=List.mem_map.mp hx
   refine rv rfl ⟨rfl,rv rfl ⟨rfl,⟨_,rfl⟩,fun _=>⟨_,rfl,?_⟩,fun z=>(nomatch z)⟩⟩
   refine vt (vt (oV ?_))
   walk_at "go"
   refine ⟨_,rfl,rv (nX (a:=stem) (by omega)) ?_⟩
   walk_at "go"
   refine eX (nN (by omega) (by omega)) ?_
   refine rv (a:=(.int (first+stride*(k:Int)),h5)) rfl ?_
   walk_at "go"
   refine fL (by decide) ?_
   obtain ⟨hc,e⟩:=fR (i:=(first+stride*(k:Int)) % 26) (h:=h5) (Int.emod_nonneg _ (by decide)) (Int.emod_lt_of_pos _ (by decide))
   have s1:=Txt.slice_le stem none (some at_)
   have s2:=Txt.slice_le stem (some at_) none
   refine rv e (rv (hU (by omega)) ?_)
   refine oV ?_
   walk_at "go"
   refine ⟨_,rfl,?_⟩
   walk_at "go"
   refine rv (nX (a:=stem) (by omega)) (rv (hU (by rw [PySem.Str.length_append];omega)) ?_)
   rfl
  ·rw [List.filterMap_map]
   exact Nat.le_trans (List.length_filterMap_le _ _) (by rw [List.length_range,show sizeLine=16777216 from rfl];omega)
  ·walk_at "go"
   refine ⟨(List.range m.toNat).map fun (k:Nat)=>wordAt stem at_ first stride (k:Int),?_,by simp,fun w hw'=>?_,?_,S5.up (by omega),b2.trans (b3.trans (b4.trans b5))⟩
   ·rw [List.filterMap_map,List.map_map]
    congr 1
    exact congrFun (List.filterMap_eq_map (f:=D.str∘fun (k:Nat)=>wordAt stem at_ first stride (k:Int))) _
   ·obtain ⟨k,_,rfl⟩:=List.mem_map.mp hw'
    exact hw k
   ·rw [List.nodup_iff_pairwise_ne,List.pairwise_map]
    refine (List.nodup_range (n:=m.toNat)).imp_of_mem fun {a b} ha hb hab e=>hab ?_
    have:=List.mem_range.mp ha
    have:=List.mem_range.mp hb
    exact sh tm (by omega) (by omega) e
end Mi
namespace Mi
open PySem Sm L2
theorem But.app {s:Nat} {hb h2:MH} {o:MO} (b:But s (hb++[o]) h2) (hs:s < hb.length):∃hb',h2=hb'++[o]∧But s hb hb':=by
 have hl:h2.length=hb.length+1:=by rw [b.1];simp
 refine ⟨h2.take hb.length,?_,by rw [List.length_take];omega,fun k hk=>?_⟩
 ·refine List.ext_getElem? fun k=>?_
  by_cases z:k < hb.length
  ·rw [List.getElem?_append_left (by rw [List.length_take];omega),List.getElem?_take_of_lt z]
  ·by_cases z2:k=hb.length
   ·subst z2
    rw [b.2 _ (by omega),List.getElem?_append_right (Nat.le_refl _),List.getElem?_append_right (by rw [List.length_take];omega),List.length_take]
    rw [show min hb.length h2.length=hb.length by omega]
   ·rw [List.getElem?_eq_none (by omega),List.getElem?_eq_none (by rw [List.length_append,List.length_take];simp;omega)]
 ·by_cases z:k < hb.length
  ·rw [List.getElem?_take_of_lt z,b.2 k hk,List.getElem?_append_left z]
  ·rw [List.getElem?_eq_none (by rw [List.length_take];omega),List.getElem?_eq_none (by omega)]
theorem St.cut {s c:Nat} {cs:List Int} {B:Nat} {hb g:MH} (S:Mi.St s c cs B (hb++g)) (h1:s < hb.length) (h2:c < hb.length):Mi.St s c cs B hb:=by
 obtain ⟨n,t,e,r⟩:=S.st
 have e2:=S.ce
 rw [List.getElem?_append_left h1] at e
 rw [List.getElem?_append_left h2] at e2
 exact ⟨⟨n,t,e,r⟩,e2,S.ne⟩
def Cl (h:MH):Prop:=∀o∈h,clO h.length o=true
theorem qw (n:Nat):∀js:List Int,clL n (js.map D.int)=true
 | []=>rfl
 | j::r=>by rw [List.map_cons];show (clD n (.int _)&&clL n _)=true;rw [qw n r];rfl
theorem Cl.but {s c:Nat} {cs:List Int} {B:Nat} {h h':MH} (C:Cl h) (S:Mi.St s c cs B h') (b:But s h h'):Cl h':=by
 intro o ho
 obtain ⟨k,hk⟩:=List.mem_iff_getElem?.mp ho
 by_cases z:k=s
 ·subst z
  obtain ⟨n,t,e,_⟩:=S.st
  rw [e] at hk
  cases hk
  show (true&&(decide (c < h'.length)&&(true&&true)))=true
  rw [decide_eq_true S.lt.2];rfl
 ·rw [b.2 k z] at hk
  rw [b.1]
  exact C o (List.mem_of_getElem? hk)
theorem lj (n:Nat):∀fs:List (Wy.Fact Str),clL n (fs.map ao)=true
 | []=>rfl
 | f::r=>by rw [List.map_cons];show (clD n (ao f)&&clL n _)=true;rw [lj n r];rfl
theorem t8 {h hb g:MH} {d:D} (hl:hb.length=h.length) (C:Cl hb) (h1:∀n,d≠.ob n) (h2:clD h.length d=true):leave h d (hb++g)=some (d,hb):=by
 have h3:lG h.length (hb++g) d=d:=by
  cases d with
  | ob n=>exact absurd rfl (h1 n)
  | _=>rfl
 unfold leave
 rw [h3,←hl,List.take_append_of_le_length (Nat.le_refl _),List.take_length,hl,h2]
 have:(hb.all (clO h.length))=true:=by
  rw [List.all_eq_true]
  intro o ho
  rw [←hl]
  exact C o ho
 rw [this,Bool.or_true]
 rfl
def Good (f:Wy.Fact Str):Prop:=f.1≠f.2.1∧f.1.length≤20∧f.2.1.length≤20
theorem cU {h:MH} {s c:Nat} {cs:List Int} {B n:Nat} {far:Int} {ws:List Str} (S:Mi.St s c cs B h) (C:Cl h) (hB:B+3*n < 2^60) (hn:n≤1000) (h0:0 < ws.length) (h1:ws.length≤1000) (hw:∀w∈ws,0 < w.length∧w.length≤20∧PyData.strOk w=true) (f0:0≤far) (f1:far≤1000000000):
  Rn (ba [.ob s,.lv (ws.map D.str),.int n,.int far] h) fun p=>∃fs:List (Wy.Fact Str),p.1=.tup (fs.map ao)∧fs.length=n∧(∀f∈fs,Good f∧-far≤f.2.2∧f.2.2≤far∧PyData.strOk f.1=true∧PyData.strOk f.2.1=true∧f.1∈ws++[Str.ofString ""]∧f.2.1∈ws++[Str.ofString ""])∧Mi.St s c cs (B+3*n) p.2∧But s h p.2∧Cl p.2:=by
 obtain ⟨hs,hc⟩:=S.lt
 refine kJ ?_
 walk_at "go"
 refine fN ?_
 walk_at "go"
 refine ⟨(n:Int),rfl,by omega,by omega,?_⟩
 rw [Int.toNat_natCast]
 refine bW (fun i δ h'=>∃(fs:List (Wy.Fact Str)) (hb:MH) (d5 d6 d7:Option D),δ=[some (.ob s),some (.lv (ws.map D.str)),some (.int n),some (.int far),some (.ob h.length),d5,d6,d7]∧h'=hb++[.lst (fs.map ao)]∧fs.length=i∧(∀f∈fs,Good f∧-far≤f.2.2∧f.2.2≤far∧PyData.strOk f.1=true∧PyData.strOk f.2.1=true∧f.1∈ws++[Str.ofString ""]∧f.2.1∈ws++[Str.ofString ""])∧Mi.St s c cs (B+3*i) hb∧But s h hb)
  ⟨[],h,_,_,_,rfl,rfl,rfl,fun f hf=>(nomatch hf),S,But.refl s h⟩ (fun _ _ _ _ _=>rfl) ?_ ?_
 ·rintro i x δ h' hx ⟨fs,hb,d5,d6,d7,rfl,rfl,hl,hg,S1,b1⟩
  have hi:i < n:=by
   have:=(List.getElem?_eq_some_iff.mp hx).1
   simpa using this
  have hlen:=b1.1
  have eadd:∀h:MH,aU (.lv (ws.map D.str)) (.lv [.str ""]) h=some (.lv ((ws++[Str.ofString ""]).map D.str),h):=fun h=>by
   show (if (ws.map D.str).length+1≤sizeLine then some (D.lv (ws.map D.str++[.str ""]),h) else none)=_
   rw [if_pos (by rw [List.length_map,show sizeLine=16777216 from rfl];omega),List.map_append];rfl
  walk_at "go"
  refine rv (eadd _) ?_
  walk_at "go"
  obtain ⟨⟨x1,h2⟩,e2,hx1,S2,b2⟩:=dS (d:=.lv ((ws++[Str.ofString ""]).map D.str)) (S1.more [.lst (fs.map ao)]) (by omega) (.inl rfl) (by simp) (by simp;omega)
  dsimp only at hx1 S2 b2
  obtain ⟨w1,hw1,rfl⟩:=List.mem_map.mp hx1
  obtain ⟨hb2,rfl,b2'⟩:=b2.app (by omega)
  refine rv e2 ?_
  walk_at "go"
  refine cG ?_
  walk_at "go"
  refine rv (eadd _) ⟨_,_,rfl,?_⟩
  refine rv (fo rfl (fun x=>match x with | .str w=>if w=w1 then none else some (.str w) | _=>none) (fun δ=>∃d0,δ=[d0,some (.str w1)]) ⟨_,rfl⟩ ?_) ⟨?_,?_⟩
  ·rintro x hx δ ⟨d0,rfl⟩
   obtain ⟨w,hw',rfl⟩:=List.mem_map.mp hx
   refine rv rfl ⟨rfl,?_⟩
   walk_at "go"
   refine rv (jE _ _ _) ⟨_,rfl,rfl,⟨_,rfl⟩,fun z=>?_,fun z=>?_⟩
   ·have:w≠w1:=by simpa using z
    refine ⟨.str w,by show (if w=w1 then none else some (D.str w))=_;rw [if_neg this],?_⟩
    walk_at "go"
   ·have:w=w1:=by simpa using z
    show (if w=w1 then none else some (D.str w))=_
    rw [if_pos this]
  ·exact Nat.le_trans (List.length_filterMap_le _ _) (by simp [show sizeLine=16777216 from rfl];omega)
  have hfm:((ws++[Str.ofString ""]).map D.str).filterMap (fun x=>match x with | .str w=>if w=w1 then none else some (.str w) | _=>none)=((ws++[Str.ofString ""]).filter fun w=>!decide (w=w1)).map D.str:=by
   rw [List.filterMap_map]
   generalize ws++[Str.ofString ""]=l
   induction l with
   | nil=>rfl
   | cons w r ih=>
    rw [List.filterMap_cons,List.filter_cons]
    by_cases z:w=w1
    ·simp only [Function.comp,if_pos z,decide_eq_true z]
     exact ih
    ·simp only [Function.comp,if_neg z,decide_eq_false z]
     rw [if_pos (by decide),List.map_cons,←ih]
  rw [hfm]
  have hne:0 < ((ws++[Str.ofString ""]).filter fun w=>!decide (w=w1)).length:=by
   rw [List.length_pos_iff_exists_mem]
   by_cases z:w1=Str.ofString ""
   ·obtain ⟨w,hw'⟩:=List.exists_mem_of_length_pos h0
    refine ⟨w,List.mem_filter.mpr ⟨List.mem_append_left _ hw',?_⟩⟩
    have h3:=(hw w hw').1
    have:w≠w1:=fun e=>by rw [e,z] at h3;exact absurd h3 (by decide)
    simp [this]
   ·exact ⟨Str.ofString "",List.mem_filter.mpr ⟨by simp,by simp [Ne.symm z]⟩⟩
  obtain ⟨⟨x2,h3⟩,e3,hx2,S3,b3⟩:=dS (d:=.lv (((ws++[Str.ofString ""]).filter fun w=>!decide (w=w1)).map D.str)) S2 (by omega) (.inl rfl) (by rw [List.length_map];exact hne) (by
   rw [List.length_map]
   have:=List.length_filter_le (fun w=>!decide (w=w1)) (ws++[Str.ofString ""])
   simp at this ⊢
   omega)
  dsimp only at hx2 S3 b3
  obtain ⟨w2,hw2,rfl⟩:=List.mem_map.mp hx2
  obtain ⟨hw2a,hw2b⟩:=List.mem_filter.mp hw2
  have hne2:w2≠w1:=by simpa using hw2b
  obtain ⟨hb3,rfl,b3'⟩:=b3.app (by rw [b2'.1];omega)
  walk_at "go"
  refine rv e3 ?_
  walk_at "go"
  have hat:∀hb':MH,hb'.length=h.length→(hb'++[MO.lst (fs.map ao)])[h.length]?=some (.lst (fs.map ao)):=fun hb' e=>by rw [←e];simp
  have hl3:hb3.length=h.length:=by rw [b3'.1,b2'.1,b1.1]
  refine tw ?_
  walk_at "go"
  refine ⟨jx (hat _ hl3),?_⟩
  walk_at "go"
  refine eX (nN (by decide) (by decide)) ?_
  walk_at "go"
  refine rv (a:=(.int (2*far+1),hb3++[.lst (fs.map ao)])) rfl ?_
  walk_at "go"
  obtain ⟨⟨y,h4⟩,e4,r,rfl,r0,r1,S4,b4⟩:=ck (m:=2*far+1) S3 (by omega) (by omega) (by omega)
  obtain ⟨hb4,e5,b4'⟩:=b4.app (by omega)
  dsimp only at e5 S4
  subst e5
  have hl4:hb4.length=h.length:=by rw [b4'.1,hl3]
  refine rv e4 ?_
  walk_at "go"
  refine rv (a:=(.int (r-far),hb4++[.lst (fs.map ao)])) rfl ?_
  walk_at "go"
  refine rv (a:=(ao (w1,w2,r-far),hb4++[.lst (fs.map ao)])) rfl ?_
  walk_at "go"
  refine rv (jr (hat _ hl4) (by rw [List.length_map,show sizeLine=16777216 from rfl];omega)) ?_
  have hset:(hb4++[MO.lst (fs.map ao)]).set h.length (.lst (fs.map ao++[ao (w1,w2,r-far)]))=hb4++[.lst ((fs++[(w1,w2,r-far)]).map ao)]:=by
   rw [←hl4,vg,List.map_append];rfl
  rw [hset]
  walk_at "go"
  have lenw:∀w∈ws++[Str.ofString ""],w.length≤20∧PyData.strOk w=true:=fun w hw'=>by
   rcases List.mem_append.mp hw' with z | z
   ·exact (hw w z).2
   ·rw [List.mem_singleton.mp z];decide+kernel
  refine ⟨fs++[(w1,w2,r-far)],hb4,_,_,_,rfl,rfl,by simp [hl],fun f hf=>?_,(St.cut (S4.up (by omega)) (by omega) (by omega)),b1.trans (b2'.trans (b3'.trans b4'))⟩
  rcases List.mem_append.mp hf with z | z
  ·exact hg f z
  ·rw [List.mem_singleton.mp z]
   exact ⟨⟨Ne.symm hne2,(lenw _ hw1).1,(lenw _ hw2a).1⟩,by show -far≤r-far;omega,by show r-far≤far;omega,(lenw _ hw1).2,(lenw _ hw2a).2,hw1,hw2a⟩
 ·rintro δ h' ⟨fs,hb,d5,d6,d7,rfl,rfl,hl,hg,S1,b1⟩
  rw [List.length_map,List.length_range] at hl S1
  walk_at "go"
  refine rv (a:=(.tup (fs.map ao),hb++[.lst (fs.map ao)])) (by
   show (bR (.ob h.length) (hb++[.lst (fs.map ao)])).map (fun p=>(D.tup p.1,hb++[MO.lst (fs.map ao)]))=_
   rw [←b1.1,lN (xs:=fs.map ao) (by simp)];rfl) ?_
  walk_at "go"
  have C2:=C.but S1 b1
  exact rv (t8 b1.1 C2 (fun n z=>(nomatch z)) (lj _ fs)) ⟨fs,rfl,hl,hg,S1,b1,C2⟩
end Mi
namespace Mi
open PySem Sm L2
open Classical in
noncomputable def fol (fs:List (Wy.Fact Str)) (f:Wy.Fact Str):Bool:=decide (Wy.Fol fs f)
theorem fu {fs:List (Wy.Fact Str)} {f:Wy.Fact Str}:fol fs f=true↔Wy.Fol fs f:=by unfold fol;exact @decide_eq_true_iff _ (Classical.propDecidable _)
theorem AO {fs:List (Wy.Fact Str)} {H:MH} {f:Wy.Fact Str} (hl:fs.length≤31) (hne:f.1≠f.2.1):b0 [.tup (fs.map ao),ao f] H=some (.bl (fol fs f),H):=by
 obtain ⟨b,e,h⟩:=mx (H:=H) hl hne
 rw [e,show b=fol fs f by rw [Bool.eq_iff_iff,fu];exact h]
def unf:D→Wy.Fact Str
 | .tup [.str a,.str b,.int c]=>(a,b,c)
 | _=>("","",0)
theorem yX {α:Type} (fs:List (Wy.Fact Str)) (g:Wy.Fact Str→α):(fs.map ao).filterMap (fun x=>some (g (unf x)))=fs.map g:=by
 rw [List.filterMap_map]
 exact congrFun (List.filterMap_eq_map (f:=g)) _
theorem comp_map {e:EM} {rest:DS} {fs:List (Wy.Fact Str)} {h:MH} {g:Wy.Fact Str→D} (he:∀f∈fs,Rn (e (some (ao f)::rest) h) fun p=>p=(g f,h)):cI [] (gN 0) fF e (fs.map ao) (none::rest) h=some (fs.map g,h):=by
 have:=fo (ws:=[]) (g:=gN 0) (c:=fF) (e:=e) (h:=h) rfl (fun x=>some (g (unf x))) (fun δ=>∃d0,δ=d0::rest) (xs:=fs.map ao) (δ:=none::rest) ⟨_,rfl⟩ (by
  rintro x hx δ ⟨d0,rfl⟩
  obtain ⟨f,hf,rfl⟩:=List.mem_map.mp hx
  exact rv rfl ⟨rfl,rv rfl ⟨rfl,⟨_,rfl⟩,fun _=>⟨_,rfl,he f hf⟩,fun z=>(nomatch z)⟩⟩)
 rw [this,yX]
end Mi
namespace Mi
open PySem Sm L2
theorem ny:∀ws:List Str,pyL (ws.map D.str)=some (ws.map PyData.str)
 | []=>rfl
 | c::r=>by simp only [List.map_cons,pyL,pyD,ny r,Option.bind_some,Option.map_some]
theorem jG:∀ws:List Str,PyData.depthAll (ws.map PyData.str)=0
 | []=>rfl
 | c::r=>by simp only [List.map_cons,PyData.depthAll,jG r,PyData.depth];rfl
theorem ow (w:Str):∀ws:List Str,((ws.map PyData.str).any fun b=>PyData.eqv b (.str w))=decide (w∈ws)
 | []=>by simp
 | c::r=>by
  rw [List.map_cons,List.any_cons,ow w r,show PyData.eqv (.str c) (.str w)=(c==w) by simp [PyData.eqv]]
  by_cases z:c=w
  ·subst z;simp
  ·have:(c==w)=false:=by simp [z]
   rw [this,Bool.false_or]
   simp [Ne.symm z]
theorem nY {h:MH} {n:Nat} {ws:List Str} {w:Str} (hn:h[n]?=some (.lst (ws.map D.str))):di (.str w) (.ob n) h=some (.bl (!decide (w∈ws)),h):=by
 have e1:bp (.ob n) h=none:=by unfold bp;dsimp only;rw [hn]
 have e2:inD (.str w) (.ob n) h=some (decide (w∈ws)):=by
  unfold inD
  rw [e1]
  dsimp only
  rw [lN hn]
  show ((rdD h (.str w)).bind fun a=>(pyL (ws.map D.str)).bind fun bs=>if a.depth≤60∧PyData.depthAll bs≤60 then some (bs.any fun b=>PyData.eqv b a) else none)=_
  rw [show rdD h (.str w)=some (.str w) from rfl,ny]
  show (if (PyData.str w).depth≤60∧PyData.depthAll (ws.map PyData.str)≤60 then some ((ws.map PyData.str).any fun b=>PyData.eqv b (.str w)) else none)=_
  rw [if_pos ⟨by simp [PyData.depth],by rw [jG];omega⟩,ow]
 unfold di
 rw [e2]
 rfl
theorem pb {h:MH} {n:Nat} {xs ys:List D} (e:h[n]?=some (.lst xs)) (hl:xs.length+ys.length≤1000000):ft (.ob n) [.lv ys] h=some (.non,h.set n (.lst (xs++ys))):=by
 unfold ft
 dsimp only
 rw [e]
 show (if xs.length+ys.length≤sizeLine then _ else _)=_
 rw [if_pos (by rw [show sizeLine=16777216 from rfl];omega)]
theorem qP {fs:List (Wy.Fact Str)} {t:Nat} {x w:Str} {c:Int}:Wy.WayN fs (t+1) x w c↔∃f∈fs,f.2.1=w∧∃u,Wy.WayN fs t x f.1 u∧c=u+f.2.2:=by
 constructor
 ·intro h
  cases h with
  | @snoc _ _ b _ c e h m=>exact ⟨(b,w,e),m,rfl,c,h,rfl⟩
 ·rintro ⟨⟨a,b,m⟩,hf,rfl,u,h,rfl⟩
  exact .snoc h hf
theorem ox {fs:List (Wy.Fact Str)} {H:MH} {Q:SQ} {d1 d2 r7 r8 r9 r10 r11:Option D} (hl:fs.length≤31)
  (q:∀(ws:List Str) d4 d5 d6,Str.ofString ""∈ws→ws.length≤63→(∀f∈fs,f.1∈ws∧f.2.1∈ws)→Q (.nx,[some (.tup (fs.map ao)),d1,d2,some (.ob H.length),d4,d5,d6,r7,r8,r9,r10,r11],H++[.lst (ws.map D.str)])):
  Rn (eF [] (gT 3 (aD (gN 4) (aD (gN 5) (aD (gN 6) cY)))) (gk (eM cP ft (ae 3) (af (eLv (fE [none,some 3] (eD (eFn my (af (ae 4) (af (ae 5) av)))) (gN 0) (bq (eOp di (ae 0) (ae 1))) (ae 0))) av)))
   (fs.map ao) [some (.tup (fs.map ao)),d1,d2,some (.ob H.length),none,none,none,r7,r8,r9,r10,r11] (H++[.lst [.str (Str.ofString "")]])) Q:=by
 refine bW (fun i δ h=>∃(ws:List Str) (d4 d5 d6:Option D),δ=[some (.tup (fs.map ao)),d1,d2,some (.ob H.length),d4,d5,d6,r7,r8,r9,r10,r11]∧h=H++[.lst (ws.map D.str)]∧Str.ofString ""∈ws∧ws.length≤1+2*i∧∀f∈fs.take i,f.1∈ws∧f.2.1∈ws)
  ⟨[Str.ofString ""],_,_,_,rfl,rfl,by simp,by simp,fun f hf=>by simp at hf⟩ (fun _ _ _ _ _=>rfl) ?_ ?_
 ·rintro i x δ h hx ⟨ws,d4,d5,d6,rfl,rfl,h0,h1,h2⟩
  rw [List.getElem?_map] at hx
  cases hf:fs[i]? with
  | none=>rw [hf] at hx;cases hx
  | some f=>
   rw [hf] at hx
   obtain ⟨p,w,m⟩:=f
   cases hx
   have hi:i < fs.length:=(List.getElem?_eq_some_iff.mp hf).1
   have hat:(H++[MO.lst (ws.map D.str)])[H.length]?=some (.lst (ws.map D.str)):=by simp
   simp only [ao]
   walk_at "go"
   refine tw ?_
   walk_at "go"
   refine ⟨jx hat,?_⟩
   walk_at "go"
   refine cG ?_
   walk_at "go"
   refine rv (a:=(.tup [.str p,.str w],H++[.lst (ws.map D.str)])) rfl ⟨_,_,rfl,?_⟩
   refine rv (fo rfl (fun x=>match x with | .str w=>if w∈ws then none else some (.str w) | _=>none) (fun δ=>∃d0,δ=[d0,some (.ob H.length)]) ⟨_,rfl⟩ ?_) ⟨?_,?_⟩
   ·rintro x hx δ ⟨d0,rfl⟩
    have hx:∃y,x=.str y:=by
     simp at hx
     rcases hx with rfl | rfl
     ·exact ⟨_,rfl⟩
     ·exact ⟨_,rfl⟩
    obtain ⟨y,rfl⟩:=hx
    refine rv rfl ⟨rfl,?_⟩
    walk_at "go"
    refine rv (nY hat) ⟨_,rfl,rfl,⟨_,rfl⟩,fun z=>?_,fun z=>?_⟩
    ·have:y∉ws:=by simpa using z
     refine ⟨.str y,by show (if y∈ws then none else some (D.str y))=_;rw [if_neg this],?_⟩
     walk_at "go"
    ·have:y∈ws:=by simpa using z
     show (if y∈ws then none else some (D.str y))=_
     rw [if_pos this]
   ·exact Nat.le_trans (List.length_filterMap_le _ _) (by simp [show sizeLine=16777216 from rfl])
   have hfm:([D.str p,D.str w]).filterMap (fun x=>match x with | .str w=>if w∈ws then none else some (.str w) | _=>none)=([p,w].filter fun w=>!decide (w∈ws)).map D.str:=by
    by_cases a:p∈ws <;> by_cases b:w∈ws <;> simp [a,b]
   rw [hfm]
   walk_at "go"
   have hlf:=List.length_filter_le (fun w=>!decide (w∈ws)) [p,w]
   refine rv (pb hat (by rw [List.length_map,List.length_map];simp at hlf;omega)) ?_
   rw [vg,←List.map_append]
   walk_at "go"
   have hmem:∀y∈[p,w],y∈ws++([p,w].filter fun w=>!decide (w∈ws)):=fun y hy=>by
    by_cases z:y∈ws
    ·exact List.mem_append_left _ z
    ·exact List.mem_append_right _ (List.mem_filter.mpr ⟨hy,by simp [z]⟩)
   refine ⟨ws++([p,w].filter fun w=>!decide (w∈ws)),_,_,_,rfl,rfl,List.mem_append_left _ h0,by rw [List.length_append];simp at hlf;omega,fun f hf'=>?_⟩
   rw [List.take_add_one,hf] at hf'
   rcases List.mem_append.mp hf' with z | z
   ·exact ⟨List.mem_append_left _ (h2 f z).1,List.mem_append_left _ (h2 f z).2⟩
   ·have:f=(p,w,m):=by simpa using z
    subst this
    exact ⟨hmem p (by simp),hmem w (by simp)⟩
 ·rintro δ h ⟨ws,d4,d5,d6,rfl,rfl,h0,h1,h2⟩
  rw [List.length_map] at h1 h2
  rw [List.take_length] at h2
  exact q ws d4 d5 d6 h0 (by omega) h2
end Mi
namespace Mi
open PySem Sm L2
abbrev yY (fs:List (Wy.Fact Str)) (t:Nat) (x w:Str) (l:List (Wy.Fact Str)):Int→Prop:=fun c=>∃f∈l,f.2.1=w∧∃u,Wy.WayN fs t x f.1 u∧c=u+f.2.2
theorem ur (i j:Int) (h:MH):rR [.int i,.int j] h=some (.int (if j < i then j else i),h):=rfl
theorem um {fs:List (Wy.Fact Str)} {B:MH} {Q:SQ} {x y:D} {xw:Str} {t:Nat} {d3 d7 d8:D} {d4 d5 d6 d9 d11:Option D} {ws:List Str} {es:List (Key×Int)} {E:Str→Option Int} (hl:fs.length≤31) (hws:∀f∈fs,f.2.1∈ws)
  (hE:∀o,bp d8 (B++[o])=some (dI es)) (RE:DI ws es E) (hm:∀w,cC (fun c=>Wy.WayN fs t xw w c) (E w)) (hwl:ws.length≤1000)
  (q:∀far F d4 d5 d6,DI ws far F→(∀w,cC (fun c=>Wy.WayN fs (t+1) xw w c) (F w))→Q (.nx,[some (.tup (fs.map ao)),some x,some y,some d3,d4,d5,d6,some d7,some d8,d9,some (.ob B.length),d11],B++[.dct (dI far)])):
  Rn (eF [] (gT 3 (aD (gN 4) (aD (gN 5) (aD (gN 6) cY)))) (sIf (bq (eOp fIn (ae 4) (ae 8))) (eW (eFn rR (af (eM iz nR (ae 10) (af (ae 5) (af (eOp aU (eOp fIx (ae 8) (ae 4)) (ae 6)) av))) (af (eOp aU (eOp fIx (ae 8) (ae 4)) (ae 6)) av))) (fz (ae 10) (ae 5))) gj)
   (fs.map ao) [some (.tup (fs.map ao)),some x,some y,some d3,d4,d5,d6,some d7,some d8,d9,some (.ob B.length),d11] (B++[.dct []])) Q:=by
 refine bW (fun i δ h=>∃(far:List (Key×Int)) (F:Str→Option Int) (d4 d5 d6:Option D),δ=[some (.tup (fs.map ao)),some x,some y,some d3,d4,d5,d6,some d7,some d8,d9,some (.ob B.length),d11]∧h=B++[.dct (dI far)]∧DI ws far F∧∀w,cC (yY fs t xw w (fs.take i)) (F w))
  ⟨[],fun _=>none,_,_,_,rfl,rfl,DI.nil _,fun w c hc=>by obtain ⟨f,hf,_⟩:=hc;simp at hf⟩ (fun _ _ _ _ _=>rfl) ?_ ?_
 ·rintro i z δ h hx ⟨far,F,d4,d5,d6,rfl,rfl,RF,hF⟩
  rw [List.getElem?_map] at hx
  cases hf:fs[i]? with
  | none=>rw [hf] at hx;cases hx
  | some f=>
   rw [hf] at hx
   obtain ⟨p,w0,m⟩:=f
   cases hx
   have hw0:=hws _ (List.mem_of_getElem? hf)
   have hat:(B++[MO.dct (dI far)])[B.length]?=some (.dct (dI far)):=by simp
   have htk:fs.take (i+1)=fs.take i++[(p,w0,m)]:=by rw [List.take_add_one,hf];rfl
   have split:∀w c,yY fs t xw w (fs.take (i+1)) c↔(w0=w∧∃u,Wy.WayN fs t xw p u∧c=u+m)∨yY fs t xw w (fs.take i) c:=fun w c=>by
    rw [htk]
    constructor
    ·rintro ⟨f,hf',e,r⟩
     rcases List.mem_append.mp hf' with z | z
     ·exact .inr ⟨f,z,e,r⟩
     ·rw [List.mem_singleton.mp z] at e r
      exact .inl ⟨e,r⟩
    ·rintro (⟨e,r⟩ | ⟨f,hf',e,r⟩)
     ·exact ⟨(p,w0,m),by simp,e,r⟩
     ·exact ⟨f,List.mem_append_left _ hf',e,r⟩
   simp only [ao]
   walk_at "go"
   refine rv (qp (hE _)) ⟨_,rfl,fun c1=>?_,fun c1=>?_⟩
   ·rw [fi,RE.val] at c1
    cases hu:E p with
    | none=>rw [hu] at c1;cases c1
    | some u=>
     have hmp:=hm p
     rw [hu] at hmp
     have hv:bc (dI es) (.inr p)=some (.int u):=by rw [fi,RE.val,hu];rfl
     walk_at "go"
     refine tw ?_
     walk_at "go"
     refine ⟨nW (bg hat),?_⟩
     walk_at "go"
     refine rv (cz (hE _) hv) ?_
     walk_at "go"
     refine rv (a:=(.int (u+m),B++[.dct (dI far)])) rfl ?_
     walk_at "go"
     refine rv (AB (bg hat)) ?_
     walk_at "go"
     refine rv (cz (hE _) hv) ?_
     walk_at "go"
     refine rv (a:=(.int (u+m),B++[.dct (dI far)])) rfl ?_
     walk_at "go"
     refine rv (ur _ _ _) ?_
     walk_at "go"
     refine rv (jC hat (by unfold dI;rw [List.length_map,show sizeLine=16777216 from rfl];have:=RF.len;omega)) ?_
     rw [vg,vJ _ _ _ RF.nd]
     walk_at "go"
     refine ⟨_,_,_,_,_,rfl,rfl,RF.put hw0 _,fun w=>?_⟩
     by_cases z:w=w0
     ·subst z
      rw [Wy.aB,RF.val]
      have k1:cC (fun c=>∃u,Wy.WayN fs t xw p u∧c=u+m) (some (u+m)):=⟨⟨u,hmp.1,rfl⟩,fun c ⟨u',h',e⟩=>by have:=hmp.2 u' h';omega⟩
      have k2:=k1.or (hF w)
      have e:(some (if u+m < (F w).getD (u+m) then u+m else (F w).getD (u+m)):Option Int)=o8 (some (u+m)) (F w):=by
       cases F w with
       | none=>simp [o8]
       | some g=>rfl
      rw [e]
      exact k2.congr fun c=>by rw [split];exact ⟨fun z=>z.elim (fun z=>.inl ⟨rfl,z⟩) .inr,fun z=>z.elim (fun z=>.inl z.2) .inr⟩
     ·rw [Wy.aP z]
      exact (hF w).congr fun c=>by rw [split];exact ⟨.inr,fun y=>y.resolve_left fun y=>z y.1.symm⟩
   ·rw [fi,RE.val] at c1
    have hu:E p=none:=by
     cases hu:E p with
     | none=>rfl
     | some u=>rw [hu] at c1;cases c1
    have hmp:=hm p
    rw [hu] at hmp
    walk_at "go"
    refine ⟨far,F,_,_,_,rfl,rfl,RF,fun w=>(hF w).congr fun c=>?_⟩
    rw [split]
    exact ⟨.inr,fun y=>y.resolve_left fun ⟨_,u,h',_⟩=>hmp u h'⟩
 ·rintro δ h ⟨far,F,d4,d5,d6,rfl,rfl,RF,hF⟩
  rw [List.length_map,List.take_length] at hF
  exact q far F d4 d5 d6 RF fun w=>(hF w).congr fun c=>qP.symm
end Mi
namespace Mi
open PySem Sm L2
theorem jt {fs:List (Wy.Fact Str)} {H:MH} {x y:Str} (hl:fs.length≤31):
  ∃(o:Option Int) (ws:List Str),aR [.tup (fs.map ao),.str x,.str y] H=some ((o.map D.int).getD .non,H)∧(∀f∈fs,f.1∈ws∧f.2.1∈ws)∧cC (fun c=>∃m,1≤m∧m≤2*ws.length+2∧Wy.WayN fs m x y c) o:=by
 have e:Rn (aR [.tup (fs.map ao),.str x,.str y] H) fun p=>∃(o:Option Int) (ws:List Str),p=((o.map D.int).getD .non,H)∧(∀f∈fs,f.1∈ws∧f.2.1∈ws)∧cC (fun c=>∃m,1≤m∧m≤2*ws.length+2∧Wy.WayN fs m x y c) o:=by
  refine kJ ?_
  walk_at "go"
  refine cG ?_
  walk_at "go"
  refine ⟨_,_,rfl,?_⟩
  refine ox hl fun ws d4 d5 d6 h0 h1 h2=>?_
  walk_at "go"
  refine p5 (p4 ?_)
  walk_at "go"
  refine ⟨_,rfl,tq ?_⟩
  refine ⟨by simp,?_⟩
  walk_at "go"
  have hput:dh [] [(Sum.inr x,D.int 0)]=dI [(.inr x,0)]:=rfl
  rw [hput,show (H++[MO.lst (ws.map D.str)])++[MO.dct []]=H++[.lst (ws.map D.str),.dct []] by simp,show (H++[MO.lst (ws.map D.str)]).length=H.length+1 by simp]
  refine fN ?_
  walk_at "go"
  have hat:∀(b:List (Key×Int)) (g:MH),(H++[MO.lst (ws.map D.str),MO.dct (dI b)]++g)[H.length]?=some (.lst (ws.map D.str)):=fun b g=>by
   rw [List.getElem?_append_left (by simp)];simp
  have hat1:∀(b:List (Key×Int)) (g:MH),(H++[MO.lst (ws.map D.str),MO.dct (dI b)]++g)[H.length+1]?=some (.dct (dI b)):=fun b g=>by
   rw [List.getElem?_append_left (by simp)];simp
  have hz:=hat [] []
  rw [List.append_nil] at hz
  refine rv (qo hz) ?_
  rw [List.length_map]
  refine eX (nN (by decide) (by decide)) ?_
  walk_at "go"
  refine rv (a:=(.int (2*(ws.length:Int)+2),H++[MO.lst (ws.map D.str),MO.dct []])) rfl ?_
  walk_at "go"
  refine ⟨((2*ws.length+2:Nat):Int),by simp,by omega,by omega,?_⟩
  rw [Int.toNat_natCast]
  have hws':∀f∈fs,f.2.1∈x::ws:=fun f hf=>List.mem_cons_of_mem _ (h2 f hf).2
  refine bW (fun t δ h=>∃(bs es:List (Key×Int)) (Bf E:Str→Option Int) (g:MH) (d8:D) (d4 d5 d6 d9 d10 d11:Option D),δ=[some (.tup (fs.map ao)),some (.str x),some (.str y),some (.ob H.length),d4,d5,d6,some (.ob (H.length+1)),some d8,d9,d10,d11]∧h=H++[MO.lst (ws.map D.str),MO.dct (dI bs)]++g∧
    (∀o,bp d8 (h++[o])=some (dI es))∧DI (x::ws) bs Bf∧DI (x::ws) es E∧(∀w,cC (fun c=>Wy.WayN fs t x w c) (E w))∧∀w,cC (fun c=>∃m,1≤m∧m≤t∧Wy.WayN fs m x w c) (Bf w))
   ⟨[],[(.inr x,0)],fun _=>none,Wy.put (fun _=>none) x (some 0),[],.dv (dI [(.inr x,0)]),_,_,_,_,_,_,rfl,by rw [List.append_nil];rfl,fun o=>rfl,DI.nil _,(DI.nil (x::ws)).put List.mem_cons_self 0,fun w=>?_,fun w c hc=>?_⟩ (fun _ _ _ _ _=>rfl) ?_ ?_
  ·by_cases z:w=x
   ·subst z
    rw [Wy.aB]
    exact ⟨.zero,fun c hc=>by cases hc;exact Int.le_refl _⟩
   ·rw [Wy.aP z]
    intro c hc
    cases hc
    exact z rfl
  ·obtain ⟨m,a,b,_⟩:=hc
   omega
  ·rintro t z δ h hx ⟨bs,es,Bf,E,g,d8,d4,d5,d6,d9,d10,d11,rfl,rfl,hE,RB,RE,hm,hb⟩
   walk_at "go"
   refine cG ?_
   walk_at "go"
   refine ⟨_,_,rfl,?_⟩
   refine um (B:=H++[MO.lst (ws.map D.str),MO.dct (dI bs)]++g) (ws:=x::ws) hl hws' hE RE hm (by rw [List.length_cons];omega) fun far F e4 e5 e6 RF hF=>?_
   walk_at "go"
   have hn:(H++[MO.lst (ws.map D.str),MO.dct (dI bs)]++g++[MO.dct (dI far)])[(H++[MO.lst (ws.map D.str),MO.dct (dI bs)]++g).length]?=some (.dct (dI far)):=by simp
   have hm1:(H++[MO.lst (ws.map D.str),MO.dct (dI bs)]++g++[MO.dct (dI far)])[H.length+1]?=some (.dct (dI bs)):=by
    rw [List.append_assoc];exact hat1 bs _
   refine q0 rfl rfl hn hm1 (by simp <;> omega) (by have:=RF.len;have:=RB.len;rw [List.length_cons] at*;omega) ?_
   have hset:(H++[MO.lst (ws.map D.str),MO.dct (dI bs)]++g++[MO.dct (dI far)]).set (H.length+1) (.dct (dI (aN far bs)))=H++[MO.lst (ws.map D.str),MO.dct (dI (aN far bs))]++(g++[MO.dct (dI far)]):=by
    rw [List.append_assoc,List.set_append_left _ _ (by simp),zM]
   rw [hset]
   refine AG ⟨aN far bs,far,_,F,g++[MO.dct (dI far)],.ob (H++[MO.lst (ws.map D.str),MO.dct (dI bs)]++g).length,_,_,_,_,_,_,rfl,rfl,fun o=>?_,RF.min RB,RF,hF,fun w=>?_⟩
   ·refine bg ?_
    rw [List.getElem?_append_left (by simp)]
    rw [←List.append_assoc]
    have:(H++[MO.lst (ws.map D.str),MO.dct (dI bs)]++g).length=(H++[MO.lst (ws.map D.str),MO.dct (dI (aN far bs))]++g).length:=by simp
    rw [this]
    simp
   ·refine ((hF w).or (hb w)).congr fun c=>⟨fun z=>z.elim (fun z=>⟨t+1,by omega,Nat.le_refl _,z⟩) fun ⟨m,a,b,r⟩=>⟨m,a,by omega,r⟩,fun ⟨m,a,b,r⟩=>?_⟩
    by_cases z:m=t+1
    ·subst z;exact .inl r
    ·exact .inr ⟨m,a,by omega,r⟩
  ·rintro δ h ⟨bs,es,Bf,E,g,d8,d4,d5,d6,d9,d10,d11,rfl,rfl,hE,RB,RE,hm,hb⟩
   rw [List.length_map,List.length_range] at hb
   walk_at "go"
   refine tw ?_
   walk_at "go"
   refine ⟨nW (bg (hat1 _ _)),?_⟩
   walk_at "go"
   refine rv (AD (bg (hat1 _ _))) ?_
   walk_at "go"
   rw [RB.val,List.append_assoc]
   refine rv (dz ?_ ?_) ⟨Bf y,ws,rfl,h2,hb y⟩
   ·intro n;cases Bf y <;> exact fun z=>(nomatch z)
   ·cases Bf y <;> rfl
 obtain ⟨p,ep,o,ws,rfl,r⟩:=e
 exact ⟨o,ws,ep,r⟩
end Mi
namespace Mi
open PySem Sm L2
theorem rp {fs:List (Wy.Fact Str)} {ws:List Str} (hws:∀f∈fs,f.2.1∈ws) (h:Wy.Neg fs):∃m w c,1≤m∧m≤ws.length∧Wy.WayN fs m w w c∧c < 0:=by
 obtain ⟨a,c,x,n⟩:=h
 obtain ⟨k,y⟩:=x.zo
 rcases Wy.WayN.short hws (k+1) (by omega) y with ⟨m,c',h1,h2,z,l⟩ | ⟨m,w,c',h⟩
 ·exact ⟨m,a,c',h1,h2,z,by omega⟩
 ·exact ⟨m,w,c',h⟩
theorem ug {fs:List (Wy.Fact Str)} {m:Nat} {a b:Str} {c:Int} (x:Wy.WayN fs m a b c):1≤m→∃f∈fs,f.1=a:=by
 induction x with
 | zero=>intro h;omega
 | @snoc n a b d c e x h ih=>
  intro _
  cases n with
  | zero=>cases x;exact ⟨_,h,rfl⟩
  | succ n=>exact ih (by omega)
theorem rG {fs:List (Wy.Fact Str)} {ws:List Str} {x y:Str} {o:Option Int} {c:Int} (hws:∀f∈fs,f.2.1∈ws) (hn:¬Wy.Neg fs) (hm:cC (fun c=>∃m,1≤m∧m≤2*ws.length+2∧Wy.WayN fs m x y c) o):(∃d,o=some d∧d≤c)↔∃d,Wy.Way fs x y d∧d≤c:=by
 constructor
 ·rintro ⟨d,rfl,l⟩
  obtain ⟨⟨m,h1,h2,w⟩,_⟩:=hm
  exact ⟨d,w.way (by omega),l⟩
 ·rintro ⟨d,w,l⟩
  obtain ⟨k,z⟩:=w.zo
  rcases Wy.WayN.short hws (k+1) (by omega) z with ⟨m,c',h1,h2,z,l'⟩ | ⟨m,w,c',h1,h2,z,l'⟩
  ·cases o with
   | none=>exact absurd ⟨m,h1,by omega,z⟩ (hm c')
   | some e=>exact ⟨e,rfl,by have:=hm.2 c' ⟨m,h1,by omega,z⟩;omega⟩
  ·exact absurd ⟨w,c',z.way (by omega),l'⟩ hn
def below (o:Option Int):Bool:=decide ((o.getD 0) < 0)
theorem or_zero {o:Option Int} {h:MH} {Q:D×MH→Prop} {e:EM} {δ:DS} (he:e δ h=some ((o.map D.int).getD .non,h)) (q:Q (.int (o.getD 0),h)):Rn (wI e (eK (.int 0)) δ h) Q:=by
 refine z3 (rv he ?_)
 cases o with
 | none=>exact ⟨false,rfl,fun z=>(nomatch z),fun _=>r_k q⟩
 | some d=>
  refine ⟨d !=0,rfl,fun _=>q,fun z=>?_⟩
  have:d=0:=by simpa using z
  subst this
  exact r_k q
open Classical in
noncomputable def neg (fs:List (Wy.Fact Str)):Bool:=decide (Wy.Neg fs)
theorem md {fs:List (Wy.Fact Str)}:neg fs=true↔Wy.Neg fs:=by unfold neg;exact @decide_eq_true_iff _ (Classical.propDecidable _)
theorem wQ (ws:List Str) (p:Str→Bool) (h:MH):y2 [.lv (ws.map fun w=>D.bl (p w))] h=some (.bl (ws.any p),h):=by
 have:∀ws:List Str,ki (ws.map fun w=>D.bl (p w))=some (ws.map p):=fun ws=>by
  induction ws with
  | nil=>rfl
  | cons g r ih=>show (ki (r.map fun g=>D.bl (p g))).map _=_;rw [ih];rfl
 show (ki (ws.map fun g=>D.bl (p g))).map _=_
 rw [this]
 show some (D.bl ((ws.map p).any id),h)=_
 rw [List.any_map]
 rfl
theorem km:∀(fs:List (Wy.Fact Str)) (a:List Str) (w:Str),w∈fs.foldl iJ a→w∈a∨∃f∈fs,w=f.1∨w=f.2.1
 | [],_,_,h=>.inl h
 | f::r,a,w,h=>by
  rw [List.foldl_cons] at h
  have t:∀(a:List Str) (x w:Str),w∈cK a x→w∈a∨w=x:=by
   intro a x w h
   unfold cK at h
   split at h
   ·exact .inl h
   ·rcases List.mem_append.mp h with z | z
    ·exact .inl z
    ·exact .inr (List.mem_singleton.mp z)
  rcases km r _ w h with z | ⟨g,hg,z⟩
  ·rcases t _ _ _ z with z | z
   ·rcases t _ _ _ z with z | z
    ·exact .inl z
    ·exact .inr ⟨f,List.mem_cons_self,.inl z⟩
   ·exact .inr ⟨f,List.mem_cons_self,.inr z⟩
  ·exact .inr ⟨g,List.mem_cons_of_mem _ hg,z⟩
theorem j9 {fs:List (Wy.Fact Str)} {H:MH} (hl:fs.length≤31):a7 [.tup (fs.map ao)] H=some (.bl (neg fs),H):=by
 have e:Rn (a7 [.tup (fs.map ao)] H) fun p=>p=(.bl (neg fs),H):=by
  refine cO ?_
  walk_at "go"
  refine cG ?_
  walk_at "go"
  refine ⟨_,_,rfl,?_⟩
  refine rv (comp_map (rest:=[]) (g:=fun f=>D.str f.1) fun f hf=>by
   walk_at "go"
   exact rv rfl rfl) ⟨by rw [List.length_map,show sizeLine=16777216 from rfl];omega,?_⟩
  walk_at "go"
  refine rv (a:=(.lv ((Str.ofString ""::fs.map fun f=>f.1).map D.str),H)) (by
   show (if _≤sizeLine then some (D.lv ([D.str (Str.ofString "")]++fs.map fun f=>D.str f.1),H) else none)=_
   rw [if_pos (by simp [show sizeLine=16777216 from rfl];omega),List.map_cons,List.map_map]
   rfl) ?_
  walk_at "go"
  refine cG ?_
  walk_at "go"
  refine ⟨_,_,rfl,?_⟩
  have hch:∀w:Str,∃o:Option Int,aR [.tup (fs.map ao),.str w,.str w] H=some ((o.map D.int).getD .non,H)∧(below o=true→Wy.Neg fs)∧((∃m c,1≤m∧(∀ws:List Str,(∀f∈fs,f.1∈ws∧f.2.1∈ws)→m≤2*ws.length+2)∧Wy.WayN fs m w w c∧c < 0)→below o=true):=fun w=>by
   obtain ⟨o,ws,e1,h1,hm⟩:=jt (fs:=fs) (H:=H) (x:=w) (y:=w) hl
   refine ⟨o,e1,fun hb=>?_,fun ⟨m,c,a,b,x,l⟩=>?_⟩
   ·have hb:o.getD 0 < 0:=of_decide_eq_true hb
    cases o with
    | none=>exact absurd hb (by decide)
    | some d=>
     obtain ⟨⟨m,a,b,x⟩,_⟩:=hm
     exact ⟨w,d,x.way (by omega),hb⟩
   ·refine decide_eq_true ?_
    cases o with
    | none=>exact absurd ⟨m,a,b ws h1,x⟩ (hm c)
    | some d=>have:=hm.2 c ⟨m,a,b ws h1,x⟩;show d < 0;omega
  let p:Str→Bool:=fun w=>below (Classical.choose (hch w))
  refine rv (fo rfl (fun x=>match x with | .str w=>some (.bl (p w)) | _=>none) (fun δ=>∃d0,δ=[d0,some (.tup (fs.map ao))]) ⟨_,rfl⟩ ?_) ⟨?_,?_⟩
  ·rintro x hx δ ⟨d0,rfl⟩
   obtain ⟨w,hw,rfl⟩:=List.mem_map.mp hx
   have hw':=Classical.choose_spec (hch w)
   refine rv rfl ⟨rfl,rv rfl ⟨rfl,⟨_,rfl⟩,fun _=>⟨_,rfl,?_⟩,fun z=>(nomatch z)⟩⟩
   refine vt (or_zero (o:=Classical.choose (hch w)) ?_ ?_)
   ·have:Rn (eFn aR (af (ae 1) (af (ae 0) (af (ae 0) av))) ([d0,some (.tup (fs.map ao))].set 0 (some (.str w))) H) fun p=>p=(((Classical.choose (hch w)).map D.int).getD .non,H):=by
     walk_at "go"
     exact rv hw'.1 rfl
    obtain ⟨q,eq,rfl⟩:=this
    exact eq
   ·walk_at "go"
    exact rv rfl rfl
  ·exact Nat.le_trans (List.length_filterMap_le _ _) (by simp [show sizeLine=16777216 from rfl];omega)
  rw [List.filterMap_map,show ((fun x:D=>match x with | .str w=>some (D.bl (p w)) | _=>none)∘D.str)=some∘fun w=>D.bl (p w) from rfl,List.filterMap_eq_map]
  walk_at "go"
  refine rv (wQ _ p _) ?_
  walk_at "go"
  have:(Str.ofString ""::fs.map fun f=>f.1).any p=neg fs:=by
   rw [Bool.eq_iff_iff,md,List.any_eq_true]
   constructor
   ·rintro ⟨w,_,hp⟩
    exact (Classical.choose_spec (hch w)).2.1 hp
   ·intro hn
    obtain ⟨m,w,c,h1,h2,x,l⟩:=rp (ws:=wordsOf fs) (fun f hf=>((bI fs []).2 f hf).2) hn
    obtain ⟨f,hf,rfl⟩:=ug x h1
    refine ⟨f.1,List.mem_cons_of_mem _ (List.mem_map.mpr ⟨f,hf,rfl⟩),(Classical.choose_spec (hch f.1)).2.2 ⟨m,c,h1,fun ws hws=>?_,x,l⟩⟩
    have:=Wy.dy (wordsOf fs) ws (mN fs [] List.nodup_nil) fun w hw=>by
     rcases km fs [] w hw with z | ⟨f,hf,z | z⟩
     ·cases z
     ·rw [z];exact (hws f hf).1
     ·rw [z];exact (hws f hf).2
    omega
  rw [this]
 obtain ⟨p,ep,rfl⟩:=e
 exact ep
end Mi
namespace Mi
open PySem Sm L2
abbrev Asg:=List (Str×Int)
def fA (a:Asg):D:=.dv (a.map fun p=>(.inr p.1,.int p.2))
def nums:List Int:=(List.range 19).map fun (k:Nat)=>-9+(k:Int)
def cH (ws:List Str):Nat→List Asg
 | 0=>[[]]
 | i+1=>(cH ws i).flatMap fun a=>nums.map fun n=>a++[(ws.getD i "",n)]
theorem ig {ws:List Str}:∀{i:Nat} {a:Asg},i≤ws.length→a∈cH ws i→a.map (·.1)=ws.take i
 | 0,a,_,h=>by rw [cH] at h;rw [List.mem_singleton.mp h];rfl
 | i+1,a,hi,h=>by
  rw [cH] at h
  obtain ⟨b,hb,h⟩:=List.mem_flatMap.mp h
  obtain ⟨n,hn,rfl⟩:=List.mem_map.mp h
  rw [List.map_append,ig (by omega) hb,List.take_succ,List.getElem?_eq_getElem (by omega)]
  simp [List.getD,List.getElem?_eq_getElem (show i < ws.length by omega)]
theorem oq {ws:List Str} {g:Str→Int} (hg:∀w∈ws,-9≤g w∧g w≤9):∀{i:Nat},i≤ws.length→(ws.take i).map (fun w=>(w,g w))∈cH ws i
 | 0,_=>by simp [cH]
 | i+1,hi=>by
  have ih:=oq hg (i:=i) (by omega)
  rw [cH]
  have hlt:i < ws.length:=by omega
  have hw:=hg ws[i] (List.getElem_mem hlt)
  refine List.mem_flatMap.mpr ⟨_,ih,List.mem_map.mpr ⟨g ws[i],List.mem_map.mpr ⟨(g ws[i]+9).toNat,List.mem_range.mpr (by omega),by omega⟩,?_⟩⟩
  rw [List.take_succ,List.getElem?_eq_getElem hlt,List.map_append]
  simp only [List.getD,List.getElem?_eq_getElem hlt,Option.getD_some]
  rfl
theorem ou (ws:List Str):∀i,(cH ws i).length=19^i
 | 0=>rfl
 | i+1=>by
  rw [cH,List.length_flatMap]
  have:((cH ws i).map fun a=>(nums.map fun n=>a++[(ws.getD i "",n)]).length)=(cH ws i).map fun _=>19:=List.map_congr_left fun a _=>by rw [List.length_map];rfl
  rw [this]
  have h2:∀l:List Asg,(l.map fun _=>19).sum=l.length*19:=fun l=>by
   induction l with
   | nil=>rfl
   | cons x r ih=>simp;omega
  rw [h2,ou ws i,Nat.pow_succ]
theorem zd (n:Nat) (a:Asg):clD n (fA a)=true:=by
 show clK n _=true
 induction a with
 | nil=>rfl
 | cons p r ih=>rw [List.map_cons];show (true&&clK n _)=true;rw [ih];rfl
theorem kW:∀a:Asg,(∀p∈a,PyData.strOk p.1=true)→fW (a.map fun p=>((.inr p.1:Key),D.int p.2))=some (a.map fun p=>.tup [.str p.1,.int p.2])
 | [],_=>rfl
 | p::r,h=>by
  rw [List.map_cons]
  show (pf (.inr p.1)).bind _=_
  rw [show pf (.inr p.1)=some (.str p.1) by show (if PyData.strOk p.1=true then _ else _)=_;rw [if_pos (h p List.mem_cons_self)]]
  show (fW (r.map fun p=>((.inr p.1:Key),D.int p.2))).map _=_
  rw [kW r fun q hq=>h q (List.mem_cons_of_mem _ hq)]
  rfl
theorem kO:∀a:Asg,fO (a.map fun p=>.tup [.str p.1,.int p.2])=some (a.map fun p=>((.inr p.1:Key),D.int p.2))
 | []=>rfl
 | p::r=>by
  rw [List.map_cons]
  show (fy (.str p.1)).bind (fun k=>(fO (r.map fun p=>.tup [.str p.1,.int p.2])).map fun ps=>(k,D.int p.2)::ps)=_
  rw [kO r];rfl
theorem uC {a:Asg} {h:MH} (nd:(a.map (·.1)).Nodup) (hl:a.length≤1000):mB [.lv (a.map fun p=>.tup [.str p.1,.int p.2])] h=some (fA a,h):=by
 show mC [.lv (a.map fun p=>.tup [.str p.1,.int p.2])] h=_
 show (fO (a.map fun p=>.tup [.str p.1,.int p.2])).bind _=_
 rw [kO]
 show (if (a.map _).length≤1000000 then _ else _)=_
 rw [if_pos (by rw [List.length_map];omega)]
 have hm:dh [] (a.map fun p=>((.inr p.1:Key),D.int p.2))=a.map fun p=>((.inr p.1:Key),D.int p.2):=jq (acc:=[]) (by
  rw [List.nil_append,List.map_map,show ((fun x:Key×D=>x.1)∘fun p:Str×Int=>((.inr p.1:Key),D.int p.2))=Sum.inr∘(·.1) from rfl,←List.map_map]
  rw [List.nodup_iff_pairwise_ne,List.pairwise_map]
  exact nd.imp fun h z=>h (Sum.inr.inj z))
 rw [hm];rfl
theorem vy {m:EM} {δ:DS} {h:MH} {Q:List D×MH→Prop} (r:Rn (m δ h) fun p=>∃kvs ds,bp p.1 p.2=some kvs∧fW kvs=some ds∧Q (ds,p.2)):Rn (pH m δ h) Q:=
 az (r.imp fun p ⟨kvs,ds,e1,e2,q⟩=>⟨(ds,p.2),by rw [e1];show (fW kvs).map _=_;rw [e2];rfl,q⟩)
theorem ze {n:Nat} {o:MO} {h:MH} (e:h[n]?=some o):chk [(n,o)] h=true:=by
 unfold chk
 rw [e]
 dsimp only
 rw [ly]
 rfl
def IsL (h:MH) (lo:Nat) (d:D) (xs:List D):Prop:=d=.lv xs∨∃k,lo≤k∧d=.ob k∧h[k]?=some (.lst xs)
theorem IsL.seq {h:MH} {lo:Nat} {d:D} {xs:List D} (x:IsL h lo d xs):∃ws,bR d h=some (xs,ws)∧∀h':MH,(∀(k:Nat) (o:MO),h[k]?=some o→h'[k]?=some o)→chk ws h'=true:=by
 rcases x with rfl | ⟨k,_,rfl,e⟩
 ·exact ⟨[],rfl,fun _ _=>rfl⟩
 ·exact ⟨[(k,.lst xs)],by simp only [bR,e],fun h' hk=>ze (hk k _ e)⟩
theorem rE {H g:MH} {d:D} {xs:List D} (x:IsL (H++g) H.length d xs) (hc:clL H.length xs=true):leave H d (H++g)=some (.lv xs,H):=by
 have h3:lG H.length (H++g) d=.lv xs:=by
  rcases x with rfl | ⟨k,hk,rfl,e⟩
  ·rfl
  ·show (if k < H.length then _ else _)=_
   rw [if_neg (by omega),e]
 unfold leave
 rw [h3,List.take_append_of_le_length (Nat.le_refl _),List.take_length,ie]
 show (if (clL H.length xs&&_)=true then _ else _)=_
 rw [hc];rfl
end Mi
namespace Mi
open PySem Sm L2
theorem get_last' {H:MH} {o:MO}:(H++[o])[H.length]?=some o:=by simp
theorem set_last' {H:MH} {o o':MO}:(H++[o]).set H.length o'=H++[o']:=by
 rw [List.set_append_right _ _ (Nat.le_refl _),Nat.sub_self];rfl
theorem r_eM' {isT:D→MH→Bool} {f:MFn} {o:EM} {m:AM} {δ:DS} {h:MH} {Q:D×MH→Prop} (r:Rn (o δ h) fun p=>isT p.1 p.2=true∧Rn (m δ p.2) fun q=>Rn (f p.1 q.1 q.2) Q):Rn (eM isT f o m δ h) Q:=
 az (r.imp fun p ⟨e,r⟩=>by rw [if_pos e];exact az r)
theorem isLst_ob' {h:MH} {n:Nat} {xs:List D} (e:h[n]?=some (.lst xs)):cP (.ob n) h=true:=by unfold cP g6;dsimp only;rw [e];rfl
theorem mAppend_ob' {h:MH} {n:Nat} {xs:List D} {y:D} (e:h[n]?=some (.lst xs)) (hl:xs.length < sizeLine):cv (.ob n) [y] h=some (.non,h.set n (.lst (xs++[y]))):=by unfold cv;dsimp only;rw [e];dsimp only;rw [if_pos hl]
theorem cl_map' {α:Type} (n:Nat) (f:α→D) (hf:∀x,clD n (f x)=true):∀xs:List α,clL n (xs.map f)=true
 | []=>rfl
 | x::r=>by rw [List.map_cons];show (clD n (f x)&&clL n _)=true;rw [hf x,cl_map' n f hf r];rfl
theorem pq (a:Asg) (w:Str) (n:Int) (h:MH) (hl:a.length≤1000):aU (.lv (a.map fun p=>.tup [.str p.1,.int p.2])) (.lv [.tup [.str w,.int n]]) h=some (.lv ((a++[(w,n)]).map fun p=>.tup [.str p.1,.int p.2]),h):=by
 rw [List.map_append]
 show (if (a.map _).length+1≤sizeLine then _ else _)=_
 rw [if_pos (by rw [List.length_map,show sizeLine=16777216 from rfl];omega)]
 rfl
theorem ij {ws:List Str} {h:MH} (hl:ws.length≤3) (nd:ws.Nodup) (hw:∀w∈ws,PyData.strOk w=true):
  aQ [.lv (ws.map D.str),.int 9] h=some (.lv ((cH ws ws.length).map fA),h):=by
 have e:Rn (aQ [.lv (ws.map D.str),.int 9] h) fun p=>p=(.lv ((cH ws ws.length).map fA),h):=by
  refine kJ ?_
  walk_at "run"
  refine cG ?_
  walk_at "run"
  refine ⟨_,_,rfl,?_⟩
  refine bW (fun i δ h'=>∃(d2:D) (d3 d4 d5 d6:Option D) (g:MH),δ=[some (.lv (ws.map D.str)),some (.int 9),some d2,d3,d4,d5,d6]∧h'=h++g∧IsL (h++g) h.length d2 ((cH ws i).map fA))
   ⟨_,_,_,_,_,[],rfl,(List.append_nil h).symm,.inl rfl⟩ (fun _ _ _ _ _=>rfl) ?_ ?_
  ·rintro i x δ h' hx ⟨d2,d3,d4,d5,d6,g,rfl,rfl,hL⟩
   rw [List.getElem?_map] at hx
   obtain ⟨w,hwi,rfl⟩:=Option.map_eq_some_iff.mp hx
   have hi:i < ws.length:=(List.getElem?_eq_some_iff.mp hwi).1
   have hgd:ws.getD i ""=w:=by rw [List.getD,hwi];rfl
   have hlen:=ou ws i
   have hp:19^i≤361:=by
    have:i=0∨i=1∨i=2:=by omega
    rcases this with rfl | rfl | rfl <;> decide
   walk_at "run"
   have hL1:IsL (h++g++[MO.lst []]) h.length d2 ((cH ws i).map fA):=by
    rcases hL with z | ⟨k,hk,z,e⟩
    ·exact .inl z
    ·exact .inr ⟨k,hk,z,by rw [List.getElem?_append_left (List.getElem?_eq_some_iff.mp e).1];exact e⟩
   obtain ⟨cw,eseq,hchk⟩:=hL1.seq
   have hchk2:∀xs,chk cw (h++g++[MO.lst xs])=true:=fun xs=>by
    obtain ⟨cw2,eseq2,hchk2⟩:=hL.seq
    have:cw2=cw:=by
     rcases hL with rfl | ⟨k,hk,rfl,e⟩
     ·have e1:some (_,cw)=some (_,([]:W)):=eseq.symm
      have e2:some (_,cw2)=some (_,([]:W)):=eseq2.symm
      rw [(Prod.mk.inj (Option.some.inj e1)).2,(Prod.mk.inj (Option.some.inj e2)).2]
     ·simp only [bR,e] at eseq2
      simp only [bR,List.getElem?_append_left (List.getElem?_eq_some_iff.mp e).1,e] at eseq
      rw [←(Prod.mk.inj (Option.some.inj eseq)).2,←(Prod.mk.inj (Option.some.inj eseq2)).2]
    rw [←this]
    exact hchk2 _ fun k o e=>by rw [List.getElem?_append_left (List.getElem?_eq_some_iff.mp e).1];exact e
   refine cG ?_
   walk_at "run"
   refine ⟨_,_,eseq,?_⟩
   refine bW (fun j δ h'=>∃(d5 d6:Option D),δ=[some (.lv (ws.map D.str)),some (.int 9),some d2,some (.str w),some (.ob (h++g).length),d5,d6]∧h'=h++g++[.lst ((((cH ws i).take j).flatMap fun a=>nums.map fun n=>a++[(w,n)]).map fA)])
    ⟨_,_,rfl,rfl⟩ (fun _ _ _ _ ⟨_,_,_,e⟩=>by rw [e];exact hchk2 _) ?_ ?_
   ·rintro j x δ h' hx ⟨d5,d6,rfl,rfl⟩
    rw [List.getElem?_map] at hx
    obtain ⟨a,ha,rfl⟩:=Option.map_eq_some_iff.mp hx
    have ham:=List.mem_of_getElem? ha
    have hj:j < (cH ws i).length:=(List.getElem?_eq_some_iff.mp ha).1
    have hkeys:=ig (by omega) ham
    have hal:a.length=i:=by
     have:=congrArg List.length hkeys
     rw [List.length_map,List.length_take] at this
     omega
    have hsz:∀l:List Asg,(l.flatMap fun a=>nums.map fun n=>a++[(w,n)]).length=19*l.length:=fun l=>by
     induction l with
     | nil=>rfl
     | cons x r ih=>rw [List.flatMap_cons,List.length_append,ih,List.length_map,List.length_cons];show 19+_=_;omega
    have hp0:=hsz ((cH ws i).take j)
    rw [List.length_take] at hp0
    generalize hP:((cH ws i).take j).flatMap (fun a=>nums.map fun n=>a++[(w,n)])=P0 at hp0 ⊢
    walk_at "run"
    refine vz ?_
    walk_at "run"
    refine ⟨-9,10,rfl,by decide,?_⟩
    rw [show (10 - -9:Int).toNat=19 by decide]
    refine bW (fun k δ h'=>∃(d6:Option D),δ=[some (.lv (ws.map D.str)),some (.int 9),some d2,some (.str w),some (.ob (h++g).length),some (fA a),d6]∧h'=h++g++[.lst ((P0++((List.range k).map fun (k:Nat)=>a++[(w,-9+(k:Int))])).map fA)])
     ⟨_,rfl,by simp⟩ (fun _ _ _ _ _=>rfl) ?_ ?_
    ·rintro k x δ h' hx ⟨d6,rfl,rfl⟩
     rw [List.getElem?_map] at hx
     obtain ⟨k',hk',rfl⟩:=Option.map_eq_some_iff.mp hx
     have hk:k < 19:=by have:=(List.getElem?_eq_some_iff.mp hk').1;simpa using this
     obtain rfl:k=k':=by rw [List.getElem?_range hk] at hk';cases hk';rfl
     walk_at "run"
     refine r_eM' ?_
     walk_at "run"
     refine ⟨isLst_ob' get_last',?_⟩
     walk_at "run"
     refine vy ?_
     walk_at "run"
     refine ⟨_,_,rfl,kW a (fun p hp=>hw p.1 (by
      have:p.1∈a.map (·.1):=List.mem_map.mpr ⟨p,hp,rfl⟩
      rw [hkeys] at this
      exact List.mem_of_mem_take this)),?_⟩
     walk_at "run"
     refine rv (pq a w _ _ (by omega)) ?_
     walk_at "run"
     refine rv (uC (by
      rw [List.map_append,hkeys]
      have h1:ws.take (i+1)=ws.take i++[w]:=by rw [List.take_succ,hwi];rfl
      have h2:(ws.take (i+1)).Nodup:=nd.sublist (List.take_sublist _ _)
      rw [h1] at h2;exact h2) (by simp;omega)) ?_
     walk_at "run"
     refine rv (mAppend_ob' get_last' (by
      rw [List.length_map,List.length_append,List.length_map,List.length_range,show sizeLine=16777216 from rfl]
      omega)) ?_
     walk_at "run"
     rw [set_last']
     refine ⟨_,rfl,?_⟩
     rw [List.range_succ]
     simp
    ·rintro δ h' ⟨d6,rfl,rfl⟩
     rw [List.length_map,List.length_range]
     walk_at "run"
     refine ⟨_,_,rfl,?_⟩
     have htk:(cH ws i).take (j+1)=(cH ws i).take j++[a]:=by rw [List.take_succ,ha];rfl
     rw [htk,List.flatMap_append,hP]
     simp [nums]
   ·rintro δ h' ⟨d5,d6,rfl,rfl⟩
    rw [List.length_map,List.take_length]
    walk_at "run"
    refine ⟨_,_,_,_,_,g++[MO.lst (((cH ws i).flatMap fun a=>nums.map fun n=>a++[(w,n)]).map fA)],rfl,by rw [List.append_assoc],.inr ⟨(h++g).length,by simp,rfl,?_⟩⟩
    rw [←List.append_assoc,get_last',cH,hgd]
  ·rintro δ h' ⟨d2,d3,d4,d5,d6,g,rfl,rfl,hL⟩
   rw [List.length_map] at hL
   walk_at "run"
   exact rv (rE hL (cl_map' _ _ (zd _) _)) rfl
 obtain ⟨p,e1,rfl⟩:=e
 exact e1
end Mi
namespace Mi
open PySem Sm L2
def numOf (a:Asg) (w:Str):Int:=if w=Str.ofString "" then 0 else ((a.find? fun p=>decide (p.1=w)).map (·.2)).getD 0
theorem sk (a:Asg) (w:Str):bc (a.map fun p=>((.inr p.1:Key),D.int p.2)) (.inr w)=((a.find? fun p=>decide (p.1=w)).map (·.2)).map D.int:=by
 unfold bc
 induction a with
 | nil=>rfl
 | cons p r ih=>
  rw [List.map_cons,List.find?_cons,List.find?_cons]
  by_cases z:p.1=w
  ·subst z;simp
  ·have z1:decide ((Sum.inr p.1:Key)=Sum.inr w)=false:=decide_eq_false fun q=>z (Sum.inr.inj q)
   have z2:decide (p.1=w)=false:=decide_eq_false z
   dsimp only
   rw [z1,z2]
   exact ih
theorem uh {a:Asg} {w:Str} (h:w∈a.map (·.1)):∃n,((a.find? fun p=>decide (p.1=w)).map (·.2))=some n:=by
 cases e:a.find? fun p=>decide (p.1=w) with
 | some p=>exact ⟨p.2,rfl⟩
 | none=>
  rw [List.find?_eq_none] at e
  obtain ⟨p,hp,e2⟩:=List.mem_map.mp h
  exact absurd (by simpa using e2) (e p hp)
theorem iu {a:Asg} {w:Str} {h:MH} (hk:w=Str.ofString ""∨w∈a.map (·.1)):bb [.str w,fA a] h=some (.int (numOf a w),h):=by
 have e:Rn (bb [.str w,fA a] h) fun p=>p=(.int (numOf a w),h):=by
  refine cO ?_
  walk_at "run"
  refine ⟨_,rfl,fun z=>?_,fun z=>?_⟩
  ·have z:w=Str.ofString "":=by simpa using z
   walk_at "run"
   unfold numOf
   rw [if_pos z]
  ·have z:w≠Str.ofString "":=by simpa using z
   obtain ⟨n,hn⟩:=uh (hk.resolve_left z)
   walk_at "run"
   refine rv (cz (kvs:=a.map fun p=>((.inr p.1:Key),D.int p.2)) rfl (v:=.int n) (by rw [sk,hn];rfl)) ?_
   walk_at "run"
   unfold numOf
   rw [if_neg z,hn];rfl
 obtain ⟨p,e1,rfl⟩:=e
 exact e1
def okB (a:Asg) (f:Wy.Fact Str):Bool:=decide (numOf a f.1-numOf a f.2.1≤f.2.2)
theorem jz {a:Asg} {f:Wy.Fact Str} {h:MH} (h1:f.1=Str.ofString ""∨f.1∈a.map (·.1)) (h2:f.2.1=Str.ofString ""∨f.2.1∈a.map (·.1)):a9 [ao f,fA a] h=some (.bl (okB a f),h):=by
 have e:Rn (a9 [ao f,fA a] h) fun p=>p=(.bl (okB a f),h):=by
  refine cO ?_
  walk_at "run"
  refine rv (a:=(.str f.1,h)) rfl ?_
  walk_at "run"
  refine rv (iu h1) ?_
  walk_at "run"
  refine rv (a:=(.str f.2.1,h)) rfl ?_
  walk_at "run"
  refine rv (iu h2) ?_
  walk_at "run"
  refine rv (a:=(.int f.2.2,h)) rfl ?_
  walk_at "run"
  rfl
 obtain ⟨p,e1,rfl⟩:=e
 exact e1
theorem fq {ws:List Str} {g:Str→Int} {w:Str} (h0:g (Str.ofString "")=0) (hw:w=Str.ofString ""∨w∈ws):numOf (ws.map fun w=>(w,g w)) w=g w:=by
 unfold numOf
 by_cases z:w=Str.ofString ""
 ·rw [if_pos z,z,h0]
 ·rw [if_neg z]
  have key:∀ws:List Str,w∈ws→((ws.map fun w=>(w,g w)).find? fun p=>decide (p.1=w))=some (w,g w):=fun ws hw=>by
   induction ws with
   | nil=>cases hw
   | cons x r ih=>
    rw [List.map_cons,List.find?_cons]
    by_cases y:x=w
    ·subst y;simp
    ·rw [show decide ((x,g x).1=w)=false from decide_eq_false y]
     exact ih ((List.mem_cons.mp hw).resolve_left (Ne.symm y))
  rw [key ws (hw.resolve_left z)];rfl
theorem oj {α:Type} (k:α→Bool):∀xs:List α,ki (xs.map fun x=>D.bl (k x))=some (xs.map k)
 | []=>rfl
 | x::r=>by rw [List.map_cons];show (ki (r.map _)).map _=_;rw [oj k r];rfl
theorem compMap' {α:Type} {ws:W} {g:GM} {e:EM} {h:MH} (hc:chk ws h=true) (f k:α→D) (J:DS→Prop) (xs:List α) {δ:DS} (h0:J δ) (ht:∀x∈xs,∀δ,J δ→Rn (g (f x) δ h) fun q=>q.2=h∧J q.1∧Rn (e q.1 h) fun p=>p=(k x,h)):
  cI ws g fF e (xs.map f) δ h=some (xs.map k,h):=by
 induction xs generalizing δ with
 | nil=>rw [List.map_nil];unfold cI;rw [if_pos hc];rfl
 | cons x r ih=>
  rw [List.map_cons]
  unfold cI
  rw [if_pos hc]
  obtain ⟨⟨δ1,h1⟩,e1,rfl,J1,p,e2,rfl⟩:=ht x List.mem_cons_self δ h0
  rw [e1]
  dsimp only [Option.bind_some] at e2 ⊢
  show ((some (true,h1)).bind _)=_
  dsimp only [Option.bind_some]
  rw [if_pos rfl,e2]
  dsimp only [Option.bind_some]
  rw [ih J1 fun y hy=>ht y (List.mem_cons_of_mem _ hy)]
  rfl
theorem og {fs:List (Wy.Fact Str)} {f:Wy.Fact Str} {ws:List Str} {h:MH} (hl:ws.length≤3) (nd:(Str.ofString ""::ws).Nodup) (hw:∀w∈ws,PyData.strOk w=true) (hfl:fs.length≤31)
  (hf:∀f∈fs,f.1∈Str.ofString ""::ws∧f.2.1∈Str.ofString ""::ws∧-2≤f.2.2∧f.2.2≤2) (ha:f.1∈Str.ofString ""::ws) (hb:f.2.1∈Str.ofString ""::ws) (hc:-2≤f.2.2∧f.2.2≤2) (hne:f.1≠f.2.1):
  bz [.tup (fs.map ao),ao f,.lv (ws.map D.str)] h=some (.bl (fol fs f),h):=by
 have e:Rn (bz [.tup (fs.map ao),ao f,.lv (ws.map D.str)] h) fun p=>p=(.bl (fol fs f),h):=by
  refine cO ?_
  walk_at "run"
  refine cG ?_
  walk_at "run"
  refine rv (ij hl (List.nodup_cons.mp nd).2 hw) ?_
  refine ⟨_,_,rfl,?_⟩
  refine bW (fun i δ h'=>h'=h∧(∃d3,δ=[some (.tup (fs.map ao)),some (ao f),some (.lv (ws.map D.str)),d3])∧∀a∈(cH ws ws.length).take i,(∀x∈fs,okB a x=true)→okB a f=true)
   ⟨rfl,⟨_,rfl⟩,fun a z=>by simp at z⟩ (fun _ _ _ _ _=>rfl) ?_ ?_
  ·rintro i x δ h' hx ⟨rfl,⟨d3,rfl⟩,hall⟩
   rw [List.getElem?_map] at hx
   obtain ⟨a,ha',rfl⟩:=Option.map_eq_some_iff.mp hx
   have ham:=List.mem_of_getElem? ha'
   have hkeys:=ig (Nat.le_refl _) ham
   rw [List.take_length] at hkeys
   have hkey:∀{w},w∈Str.ofString ""::ws→w=Str.ofString ""∨w∈a.map (·.1):=fun z=>by rw [hkeys];exact List.mem_cons.mp z
   have hnext:((∀x∈fs,okB a x=true)→okB a f=true)→∀b∈(cH ws ws.length).take (i+1),(∀x∈fs,okB b x=true)→okB b f=true:=fun hz b hb=>by
    rw [List.take_succ,ha'] at hb
    rcases List.mem_append.mp hb with z | z
    ·exact hall b z
    ·have:b=a:=by simpa using z
     subst this;exact hz
   walk_at "run"
   refine rv (jz (hkey ha) (hkey hb)) ⟨okB a f,rfl,fun z=>?_,fun z=>?_⟩
   ·have z:okB a f=false:=by simpa using z
    walk_at "run"
    refine cG ?_
    walk_at "run"
    refine ⟨_,_,rfl,?_⟩
    have ec:cI [] (gN 0) fF (eFn a9 (af (ae 0) (af (ae 1) av))) (fs.map ao) [none,some (fA a)] h'=some (fs.map fun x=>D.bl (okB a x),h'):=compMap' rfl ao (fun x=>.bl (okB a x)) (fun δ=>∃d0,δ=[d0,some (fA a)]) fs ⟨_,rfl⟩ (by
     rintro x hx δ ⟨d0,rfl⟩
     walk_at "run"
     refine ⟨rfl,⟨_,rfl⟩,?_⟩
     walk_at "run"
     exact rv (jz (hkey (hf x hx).1) (hkey (hf x hx).2.1)) rfl)
    refine rv ec ⟨by dsimp only;rw [List.length_map,show sizeLine=16777216 from rfl];omega,?_⟩
    walk_at "run"
    refine rv (a:=(.bl ((fs.map (okB a)).all id),h')) (by
     show (ki (fs.map fun x=>D.bl (okB a x))).map _=_
     rw [oj];rfl) ?_
    refine ⟨(fs.map (okB a)).all id,rfl,fun y=>?_,fun y=>?_⟩
    ·walk_at "run"
     have hbad:fol fs f=false:=by
      rw [←Bool.not_eq_true,fu]
      intro hF
      have hh:=Wy.wC (g:=numOf a) hF fun x hx=>by
       have:okB a x=true:=by
        rw [List.all_map] at y
        exact List.all_eq_true.mp y x hx
       simpa [okB] using this
      rw [show okB a f=true from decide_eq_true hh] at z
      cases z
     rw [hbad]
    ·walk_at "run"
     refine ⟨rfl,⟨_,rfl⟩,hnext fun hz=>?_⟩
     exfalso
     have:(fs.map (okB a)).all id=true:=by
      rw [List.all_map]
      exact List.all_eq_true.mpr hz
     rw [this] at y
     cases y
   ·refine ⟨fun y=>(nomatch y),fun _=>?_⟩
    have z:okB a f=true:=by simpa using z
    walk_at "run"
    exact ⟨rfl,⟨_,rfl⟩,hnext fun _=>z⟩
  ·rintro δ h' ⟨rfl,⟨d3,rfl⟩,hall⟩
   rw [List.length_map,List.take_length] at hall
   walk_at "run"
   have hgood:fol fs f=true:=by
    rw [fu]
    apply Classical.byContradiction
    intro hF
    obtain ⟨g,g0,gb,gf,gn⟩:=Wy.jX (a:=f.1) (b:=f.2.1) (c:=f.2.2) nd hl hf ha hb hc hne hF
    have hm:=oq gb (Nat.le_refl ws.length)
    rw [List.take_length] at hm
    have h1:=hall _ hm fun x hx=>decide_eq_true (by
     rw [fq g0 (List.mem_cons.mp (hf x hx).1),fq g0 (List.mem_cons.mp (hf x hx).2.1)]
     exact gf x hx)
    have h2:=of_decide_eq_true h1
    rw [fq g0 (List.mem_cons.mp ha),fq g0 (List.mem_cons.mp hb)] at h2
    exact gn h2
   rw [hgood]
 obtain ⟨p,e1,rfl⟩:=e
 exact e1
end Mi
namespace Mi
open PySem Sm L2
theorem jO {fs:List (Wy.Fact Str)} {f:Wy.Fact Str} {h:MH} (hl:fs.length≤31):aZ [.tup (fs.map ao),ao f] h=some (.bl (fol fs f),h):=by
 have e:Rn (aZ [.tup (fs.map ao),ao f] h) fun p=>p=(.bl (fol fs f),h):=by
  refine cO ?_
  walk_at "run"
  refine rv (a:=(.str f.1,h)) rfl ?_
  walk_at "run"
  refine rv (a:=(.str f.2.1,h)) rfl ?_
  walk_at "run"
  obtain ⟨o,ws,eo,hws,hm⟩:=jt (fs:=fs) (H:=h) (x:=f.1) (y:=f.2.1) hl
  refine rv eo ?_
  walk_at "run"
  refine rv (j9 hl) ⟨_,rfl,fun c=>?_,fun c=>?_⟩
  ·walk_at "run"
   have:fol fs f=true:=fu.mpr (.inl (md.mp c))
   rw [this]
  ·have hneg:¬Wy.Neg fs:=fun z=>by rw [md.mpr z] at c;cases c
   have hw:=fun c=>rG (c:=c) (fun f hf=>(hws f hf).2) hneg hm
   walk_at "run"
   cases o with
   | none=>
    refine rv rfl ⟨_,rfl,fun z=>(nomatch z),fun _=>?_⟩
    walk_at "run"
    have:fol fs f=false:=by
     rw [←Bool.not_eq_true,fu]
     refine fun z=>z.elim hneg fun z=>?_
     obtain ⟨d,e,_⟩:=(hw f.2.2).mpr z
     cases e
    rw [this]
   | some d=>
    refine rv rfl ⟨_,rfl,fun _=>?_,fun z=>(nomatch z)⟩
    walk_at "run"
    refine rv (a:=(.int f.2.2,h)) rfl ?_
    walk_at "run"
    refine rv (a:=(.bl (decide (d≤f.2.2)),h)) rfl ?_
    walk_at "run"
    have:fol fs f=decide (d≤f.2.2):=by
     rw [Bool.eq_iff_iff,fu,decide_eq_true_iff]
     constructor
     ·refine fun z=>z.elim (fun z=>absurd z hneg) fun z=>?_
      obtain ⟨d',e,l⟩:=(hw _).mpr z
      cases e
      exact l
     ·exact fun z=>.inr ((hw _).mp ⟨d,rfl,z⟩)
    rw [this]
 obtain ⟨p,ep,rfl⟩:=e
 exact ep
theorem pick_int' {P:Int→Prop} {xs:List Int} {d:D} (h:d∈xs.map D.int) (hx:∀x∈xs,P x):∃i,d=.int i∧P i:=by
 obtain ⟨i,hi,rfl⟩:=List.mem_map.mp h
 exact ⟨i,rfl,hx i hi⟩
theorem rW {w:Str} (h:1≤w.length):w≠Str.ofString "":=fun z=>by rw [z] at h;exact absurd h (by decide)
theorem law_true (ns:List Int) (hn:ns.length≤63):∃h',qD [.ro (ns.map D.int)] []=some (.bl true,h'):=by
 have e:Rn (qD [.ro (ns.map D.int)] []) fun p=>p.1=.bl true:=by
  obtain ⟨cs,ed,S0⟩:=px ns hn
  refine cO ?_
  walk_at "run"
  refine rv ed ?_
  walk_at "run"
  refine fN ?_
  walk_at "run"
  refine ⟨6,rfl,by decide,by decide,?_⟩
  have C0:Cl [.lst (cs.map D.int),.lst [.int 0,.ob 0,.int 0]]:=by
   intro o ho
   rcases List.mem_cons.mp ho with rfl | ho
   ·exact qw _ cs
   ·rw [List.mem_singleton.mp ho];rfl
  refine bW (fun i δ h=>∃v2 v3 v4 v5 v6 v7,δ=[some (.ro (ns.map D.int)),some (.ob 1),v2,v3,v4,v5,v6,v7]∧Mi.St 1 0 cs (1000*i) h∧Cl h)
   ⟨_,_,_,_,_,_,rfl,S0,C0⟩ (fun _ _ _ _ _=>rfl) ?_ ?_
  ·rintro i x δ h hx ⟨v2,v3,v4,v5,v6,v7,rfl,S,C⟩
   have hi:i < 6:=by
    have:=(List.getElem?_eq_some_iff.mp hx).1
    simpa using this
   walk_at "run"
   obtain ⟨⟨y,h1⟩,e1,hy,S1,b1⟩:=dS (d:=.lv ([1,2,2,3].map D.int)) S (by omega) (.inl rfl) (by simp) (by simp)
   obtain ⟨m,rfl,hm⟩:=pick_int' (P:=fun i=>1≤i∧i≤3) hy (by decide)
   refine rv e1 ?_
   have C1:=C.but S1 b1
   walk_at "run"
   obtain ⟨⟨y,h2⟩,e2,ws,rfl,hwl,hw,wnd,S2,b2⟩:=iy (m:=m) S1 (by omega) (by omega) (by omega)
   refine rv e2 ?_
   have C2:=C1.but S2 b2
   have hw':∀w∈ws,0 < w.length∧w.length≤20∧PyData.strOk w=true:=fun w z=>⟨(hw w z).1,by have:=(hw w z).2.1;omega,t6 (hw w z).2.2⟩
   walk_at "run"
   obtain ⟨⟨y,h3⟩,e3,k,rfl,k0,k1,S3,b3⟩:=ck (m:=8) S2 (by omega) (by decide) (by decide)
   refine rv e3 ?_
   have C3:=C2.but S3 b3
   obtain ⟨kn,rfl⟩:=Int.eq_ofNat_of_zero_le k0
   walk_at "run"
   obtain ⟨⟨y,h4⟩,e4,fs,rfl,hfl,hf,S4,b4,C4⟩:=cU (n:=kn) (far:=2) (ws:=ws) S3 C3 (by omega) (by omega) (by omega) (by omega) hw' (by decide) (by decide)
   refine rv e4 ?_
   walk_at "run"
   obtain ⟨⟨y,h5⟩,e5,gs,rfl,hgl,hg,S5,b5,C5⟩:=cU (n:=1) (far:=2) (ws:=ws) S4 C4 (by dsimp only at*;omega) (by omega) (by omega) (by omega) hw' (by decide) (by decide)
   refine rv e5 ?_
   match gs,hgl with
   | [f],_=>
   have hgf:=hg f (by simp)
   walk_at "run"
   refine rv (a:=(ao f,h5)) rfl ?_
   walk_at "run"
   refine rv (AO (by omega) hgf.1.1) ?_
   walk_at "run"
   refine rv rfl ⟨true,rfl,fun z=>(nomatch z),fun _=>?_⟩
   walk_at "run"
   have hnd:(Str.ofString ""::ws).Nodup:=List.nodup_cons.mpr ⟨fun z=>rW (hw _ z).1 rfl,wnd⟩
   have hmem:∀{w},w∈ws++[Str.ofString ""]→w∈Str.ofString ""::ws:=fun z=>by
    rcases List.mem_append.mp z with z | z
    ·exact List.mem_cons_of_mem _ z
    ·rw [List.mem_singleton.mp z];exact List.mem_cons_self
   refine rv (og (by omega) hnd (fun w z=>(hw' w z).2.2) (by omega) (fun x hx=>⟨hmem (hf x hx).2.2.2.2.2.1,hmem (hf x hx).2.2.2.2.2.2,(hf x hx).2.1,(hf x hx).2.2.1⟩) (hmem hgf.2.2.2.2.2.1) (hmem hgf.2.2.2.2.2.2) ⟨hgf.2.1,hgf.2.2.1⟩ hgf.1.1) ?_
   refine rv (a:=(.bl false,h5)) (by rw [show gz (.bl (fol fs f)) (.bl (fol fs f)) h5=some (.bl (!(fol fs f==fol fs f)),h5) from rfl];simp) ⟨false,rfl,fun z=>(nomatch z),fun _=>?_⟩
   walk_at "run"
   obtain ⟨⟨y,h6⟩,e6,k,rfl,k0,k1,S6,b6⟩:=ck (m:=6) S5 (by dsimp only at*;omega) (by decide) (by decide)
   refine rv e6 ?_
   have C6:=C5.but S6 b6
   walk_at "run"
   obtain ⟨⟨y,h7⟩,e7,vs,rfl,hvl,hv,vnd,S7,b7⟩:=iy (m:=1+k) S6 (by dsimp only at*;omega) (by omega) (by omega)
   refine rv e7 ?_
   have C7:=C6.but S7 b7
   have hv':∀w∈vs,0 < w.length∧w.length≤20∧PyData.strOk w=true:=fun w z=>⟨(hv w z).1,by have:=(hv w z).2.1;omega,t6 (hv w z).2.2⟩
   walk_at "run"
   refine rv (a:=(.int 1000000000,h7)) rfl ?_
   walk_at "run"
   obtain ⟨⟨y,h8⟩,e8,hy,S8,b8⟩:=dS (d:=.lv ([3,20,1000000000].map D.int)) S7 (by dsimp only at*;omega) (.inl rfl) (by simp) (by simp)
   obtain ⟨far,rfl,hfar⟩:=pick_int' (P:=fun i=>0≤i∧i≤1000000000) hy (by decide)
   refine rv e8 ?_
   have C8:=C7.but S8 b8
   walk_at "run"
   obtain ⟨⟨y,h9⟩,e9,hy,S9,b9⟩:=dS (d:=.lv ([3,8,16,30].map D.int)) S8 (by dsimp only at*;omega) (.inl rfl) (by simp) (by simp)
   obtain ⟨mm,rfl,hmm⟩:=pick_int' (P:=fun i=>0≤i∧i≤30) hy (by decide)
   refine rv e9 ?_
   have C9:=C8.but S9 b9
   obtain ⟨mn,rfl⟩:=Int.eq_ofNat_of_zero_le hmm.1
   walk_at "run"
   obtain ⟨⟨y,hA⟩,eA,us,rfl,hul,hu,SA,bA,CA⟩:=cU (n:=mn) (far:=far) (ws:=vs) S9 C9 (by dsimp only at*;omega) (by omega) (by omega) (by omega) hv' hfar.1 hfar.2
   refine rv eA ?_
   walk_at "run"
   refine cG ?_
   walk_at "run"
   obtain ⟨⟨y,hB⟩,eB,gs,rfl,hgl',hg',SB,bB,CB⟩:=cU (n:=4) (far:=far) (ws:=vs) SA CA (by dsimp only at*;omega) (by omega) (by omega) (by omega) hv' hfar.1 hfar.2
   refine rv eB ?_
   refine ⟨_,_,rfl,?_⟩
   refine bW (fun j δ h'=>h'=hB∧∃v5,δ=[some (.ro (ns.map D.int)),some (.ob 1),some x,some (.lv (vs.map D.str)),some (.tup (us.map ao)),v5,some (.bl (fol fs f)),some (.int far)])
    ⟨rfl,_,rfl⟩ (fun _ _ _ _ _=>rfl) ?_ ?_
   ·rintro j y δ h' hy ⟨rfl,v5,rfl⟩
    rw [List.getElem?_map] at hy
    obtain ⟨z,hz,rfl⟩:=Option.map_eq_some_iff.mp hy
    have hzm:=hg' z (List.mem_of_getElem? hz)
    walk_at "run"
    refine rv (AO (by omega) hzm.1.1) ?_
    walk_at "run"
    refine rv (jO (by omega)) ?_
    refine rv (a:=(.bl false,h')) (by rw [show gz (.bl (fol us z)) (.bl (fol us z)) h'=some (.bl (!(fol us z==fol us z)),h') from rfl];simp) ⟨false,rfl,fun z=>(nomatch z),fun _=>?_⟩
    walk_at "run"
    exact ⟨rfl,_,rfl⟩
   ·rintro δ h' ⟨rfl,v5,rfl⟩
    exact ⟨_,_,_,_,_,_,rfl,SB.up (by dsimp only at*;omega),CB⟩
  ·rintro δ h ⟨v2,v3,v4,v5,v6,v7,rfl,S,C⟩
   walk_at "run"
 obtain ⟨⟨d,h'⟩,e1,rfl⟩:=e
 exact ⟨h',e1⟩
end Mi
open PySem PySem.W PyProof.Rows
theorem Mi.left:LeftO Mi.pw Mi.view ([]:List Str) (fun s=>xlAt Mi.view [] s&&recOk (RowW.records (OpenRow.toRowW PySem.Challenge.rw_neverstuck_k10_what_follows.row)) s) (fun _=>()) (fun _=>()) 20000:=fun w=>by kernel_rfl
theorem Mi.BO:defOf Mi.view "law"=some (Hd.bD "law" Mi.iq,[]):=by kernel_rfl
theorem Mi.hp:PySem.Program.theDef Mi.pw "law"=some (L2.gD Mi.iq,L2.dY Mi.iq,L2.ay Mi.iq):=by kernel_rfl
theorem PySem.Challenge.cw_neverstuck_k10_what_follows_holds : PySem.Challenge.rw_neverstuck_k10_what_follows.Holds := by
 refine holds_law (by decide+kernel) fun said=>?_
 refine PySem.W.holds_open (q:=Mi.view) (loose:=[]) (Xt:=fun s=>xlAt Mi.view [] s&&recOk (RowW.records (OpenRow.toRowW PySem.Challenge.rw_neverstuck_k10_what_follows.row)) s) (XP:=XL Mi.view []) (Yf:=fun _=>()) (Ya:=fun _=>()) (YP:=fun _ _=>True) (N:=20000) (d:=Hd.bD "law" Mi.iq) (kwd:=[]) Mi.left (fun _ _ _=>trivial) (fun _ _ _ _ _=>trivial) (fun s e=>xl_of s (Bool.and_eq_true_iff.mp e).1) XL.keeps Mi.BO Mi.hp (by kernel_rfl) (fun s e=>recFacts_of (Bool.and_eq_true_iff.mp e).2) (by kernel_rfl) said (by decide+kernel) ⟨rfl,rfl,rfl,rfl,rfl,by decide+kernel⟩ (by w_witness2) ?_
 exact Hd.yW (k:=5) (by kernel_rfl) (by kernel_rfl) ⟨rfl,by decide,by decide⟩ fun w s₀ mg mb h G _=>Mi.all_mk G.T Mi.law_true
